"""there: which conditions can be there at once, and its refusals."""

import random
import unittest

from netsunfolded.events import answers
from tests.helper import BIG, FORTY_EVENTS, MANY_ROWS, Model
from tests.helper import ask, ask_behind, ask_last, begin, first_difference, random_net, random_wild_net, split, there

# Conditions 0 and 1 from the beginning, 2 by event 0 from 0, 3 by event 1 from 1, 4 by event 2 from 2 and 3.
JOINED = begin(5, [([0], [2]), ([1], [3]), ([2, 3], [4])], [0, 1])
# Condition 0 became 1 or 2; 1 became 3, 2 became 4.
APART = begin(5, [([0], [1]), ([0], [2]), ([1], [3]), ([2], [4])], [0])
# Condition 2 was made from 0 by event 0, which is cut off; 3 from 1 by event 1.
CUT_OFF = begin(3, [([0], [0]), ([1], [2])], [0, 1])


class AtOnce(unittest.TestCase):
    def hold(self, net, conditions, answer):
        self.assertEqual(ask_last(net, there(conditions)), [answer], conditions)

    def test_no_condition(self):
        for net in (JOINED, APART, CUT_OFF, begin(1, [], [])):
            self.hold(net, [], 1)

    def test_one_condition(self):
        for net in (JOINED, APART):
            for condition in range(5):
                self.hold(net, [condition], 1)

    def test_conditions_from_the_beginning(self):
        self.hold(JOINED, [0, 1], 1)
        self.hold(begin(9, [], list(range(9))), list(range(9)), 1)

    def test_made_by_one_event(self):
        net = begin(4, [([0], [1, 2, 3])], [0])
        self.hold(net, [1, 2], 1)
        self.hold(net, [1, 2, 3], 1)

    def test_made_side_by_side(self):
        self.hold(JOINED, [2, 3], 1)
        self.hold(JOINED, [0, 3], 1)
        self.hold(JOINED, [1, 2], 1)

    def test_one_that_was_used_for_another(self):
        self.hold(JOINED, [0, 2], 0)
        self.hold(JOINED, [1, 3], 0)
        self.hold(JOINED, [2, 4], 0)

    def test_one_that_was_used_by_an_event_that_another_needs(self):
        # Condition 4 was made by event 2; event 0, which it needs, used condition 0.
        self.hold(JOINED, [0, 4], 0)
        self.hold(JOINED, [1, 4], 0)
        row = begin(9, [([place], [place + 1]) for place in range(8)], [0])
        self.hold(row, [0, 8], 0)
        self.hold(row, [2, 6], 0)

    def test_makers_that_clash(self):
        self.hold(APART, [1, 2], 0)

    def test_makers_whose_needs_clash(self):
        self.hold(APART, [3, 4], 0)
        self.hold(APART, [1, 4], 0)
        self.hold(APART, [2, 3], 0)

    def test_one_of_three_that_can_t_be_there(self):
        self.hold(JOINED, [0, 1, 2], 0)
        self.hold(JOINED, [0, 1, 3], 0)
        self.hold(JOINED, [0, 2, 3], 0)
        self.hold(JOINED, [0, 1, 2, 3, 4], 0)

    def test_makers_that_need_the_same(self):
        net = begin(5, [([0], [1, 2]), ([1], [3]), ([2], [4])], [0])
        self.hold(net, [3, 4], 1)

    def test_two_conditions_of_one_place(self):
        # Place 0 may be filled anew; the old condition was used.
        self.hold(CUT_OFF, [0, 2], 0)

    def test_made_by_a_cut_off_event(self):
        self.hold(CUT_OFF, [2], 1)
        self.hold(CUT_OFF, [2, 3], 1)
        self.hold(CUT_OFF, [1, 2], 1)
        self.hold(CUT_OFF, [1, 2, 3], 0)

    def test_made_by_two_cut_off_events(self):
        side_by_side = begin(2, [([0], [0]), ([1], [1])], [0, 1])
        self.hold(side_by_side, [2, 3], 1)
        shut_out = begin(1, [([0], [0]), ([0], [0])], [0])
        self.hold(shut_out, [1, 2], 0)


class Refusals(unittest.TestCase):
    REFUSED = [
        [1, 0], [0, 2, 1], [4, 3], [0, 0], [4, 4], [0, 1, 1], [0, 0, 4], [5], [0, 5], [6], [0, 4, 400], [2 ** 32],
        [2 ** 63], [BIG], [0, BIG], [BIG, 0], [BIG, BIG], [5, 5], [0, 1, 2, 3, 4, 5], list(range(400)),
        [0] * 400, list(range(400, 0, -1)), [BIG] * 400, list(range(BIG - 399, BIG + 1)),
    ]

    def test_not_rising_or_one_that_there_isn_t(self):
        for conditions in self.REFUSED:
            self.assertEqual(ask_last(JOINED, there(conditions)), [-3], conditions)

    def test_what_can_t_be_there_is_looked_at_later(self):
        # 0 and 2 can't be there at once.
        self.assertEqual(ask(JOINED, there([2, 0]), there([0, 2, 5]), there([0, 2]))[1:], [[-3], [-3], [0]])

    def test_at_the_bound(self):
        # Conditions 0 to 40.
        net = begin(*FORTY_EVENTS)
        self.assertEqual(ask(net, there([39]), there([40]), there([41]), there([40, 41])),
                         [[40, 41, 0], [1], [1], [-3], [-3]])
        self.assertEqual(ask(net, there(list(range(41))), there(list(range(42))))[1:], [[0], [-3]])

    def test_ahead_of_any_begin(self):
        self.assertEqual(ask(there([]), there([0]), there([BIG]), there([0, 0])), [[1], [-3], [-3], [-3]])

    def test_a_net_without_conditions(self):
        self.assertEqual(ask(begin(3, [([0], [1])], []), there([]), there([0])), [[0, 0, 0], [1], [-3]])

    def test_many_long_lists(self):
        calls = JOINED + there(list(range(400))) * 36
        self.assertEqual(split(answers(calls)), [[3, 5, 0]] + [[-3]] * 36)


class AgainstTheWords(unittest.TestCase):
    def hold(self, net, source):
        if ask_last(begin(*net))[0] < 0:
            return
        model = Model(*net[1:])
        model.unfold()
        count = len(model.conditions)
        chosen = [[c, d] for c in range(count) for d in range(c + 1, count)]
        chosen += [sorted(source.sample(range(count), source.randint(0, min(count, 5)))) for turn in range(30)]
        for row in [sorted(model.there_behind(needs)) for needs in model.needs]:
            # Just what's there behind some events, and one condition more.
            chosen += [row, sorted({*row, source.randrange(count)})]
        told = ask_behind(begin(*net), [there(row) for row in chosen])
        self.assertIsNone(first_difference(chosen, told, [[int(model.at_once(row))] for row in chosen]), net)

    def test_nets_in_which_much_happens(self):
        source = random.Random(5)
        for turn in range(150):
            self.hold(random_net(source), source)

    def test_wild_nets(self):
        source = random.Random(6)
        for turn in range(250):
            self.hold(random_wild_net(source), source)

    def test_nets_with_many_conditions(self):
        self.hold(FORTY_EVENTS, random.Random(7))
        self.hold(MANY_ROWS, random.Random(8))


if __name__ == "__main__":
    unittest.main()
