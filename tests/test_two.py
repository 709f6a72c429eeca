"""two: which of the five answers holds of two events, and its refusal."""

import random
import unittest

from tests.helper import BIG, FORTY_EVENTS, MANY_ROWS, Model
from tests.helper import ask, ask_behind, ask_last, begin, first_difference, random_net, random_wild_net, two

# Events 0 and 1 happen side by side, event 2 needs both.
JOINED = begin(5, [([0], [2]), ([1], [3]), ([2, 3], [4])], [0, 1])
# Events 0 and 1 shut one another out; event 2 needs 0, event 3 needs 1.
APART = begin(5, [([0], [1]), ([0], [2]), ([1], [3]), ([2], [4])], [0])
# Event 1 needs event 0 and is cut off.
ROUND = begin(2, [([0], [1]), ([1], [0])], [0])


class FiveAnswers(unittest.TestCase):
    def hold(self, net, e, f, answer, turned):
        self.assertEqual(ask(net, two(e, f), two(f, e))[1:], [[answer], [turned]], (e, f))

    def test_one(self):
        for e in range(3):
            self.assertEqual(ask_last(JOINED, two(e, e)), [0])
        for e in range(4):
            self.assertEqual(ask_last(APART, two(e, e)), [0])

    def test_one_needs_the_other(self):
        self.hold(JOINED, 0, 2, 1, 2)
        self.hold(JOINED, 1, 2, 1, 2)
        self.hold(APART, 0, 2, 1, 2)

    def test_one_needs_the_other_by_way_of_others(self):
        row = begin(9, [([place], [place + 1]) for place in range(8)], [0])
        self.hold(row, 0, 7, 1, 2)
        self.hold(row, 3, 6, 1, 2)

    def test_clash(self):
        self.hold(APART, 0, 1, 3, 3)

    def test_clash_only_through_what_both_need(self):
        self.hold(APART, 2, 3, 3, 3)

    def test_clash_only_through_what_one_needs(self):
        self.hold(APART, 0, 3, 3, 3)
        self.hold(APART, 2, 1, 3, 3)

    def test_clash_by_one_of_several_conditions(self):
        self.hold(begin(3, [([0, 1], []), ([1, 2], [])], [0, 1, 2]), 0, 1, 3, 3)

    def test_clash_behind_the_same_event(self):
        # Both need event 0, which doesn't clash with itself.
        net = begin(4, [([0], [1]), ([1], [2]), ([1], [3])], [0])
        self.hold(net, 1, 2, 3, 3)

    def test_side_by_side(self):
        self.hold(JOINED, 0, 1, 4, 4)

    def test_side_by_side_behind_the_same_event(self):
        net = begin(5, [([0], [1, 2]), ([1], [3]), ([2], [4])], [0])
        self.hold(net, 1, 2, 4, 4)

    def test_one_transition_that_happens_in_two_ways(self):
        # Events 2 and 3 are both of transition 2.
        net = begin(3, [([0], [1]), ([0], [1]), ([1], [2])], [0])
        self.hold(net, 2, 3, 3, 3)
        self.hold(net, 0, 2, 1, 2)
        self.hold(net, 1, 2, 3, 3)


class CutOff(unittest.TestCase):
    def test_one(self):
        self.assertEqual(ask_last(ROUND, two(1, 1)), [0])

    def test_one_needs_the_other(self):
        self.assertEqual(ask(ROUND, two(0, 1), two(1, 0))[1:], [[1], [2]])

    def test_side_by_side(self):
        # Event 0 is cut off.
        net = begin(3, [([0], [0]), ([1], [2])], [0, 1])
        self.assertEqual(ask(net, two(0, 1), two(1, 0)), [[2, 4, 1], [4], [4]])

    def test_clash(self):
        # All three are cut off; the third uses another condition than the first two.
        net = begin(2, [([0], [0]), ([0], [0]), ([1], [1])], [0, 1])
        self.assertEqual(
            ask(net, two(0, 1), two(1, 0), two(0, 2), two(2, 1)), [[3, 5, 3], [3], [3], [4], [4]]
        )


class Refusals(unittest.TestCase):
    NOT_THERE = (2, 3, 40, 2 ** 32, 2 ** 63, BIG)

    def test_the_first_one(self):
        for e in self.NOT_THERE:
            self.assertEqual(ask(ROUND, two(e, 0), two(e, 1))[1:], [[-2], [-2]])

    def test_the_second_one(self):
        for f in self.NOT_THERE:
            self.assertEqual(ask(ROUND, two(0, f), two(1, f))[1:], [[-2], [-2]])

    def test_both(self):
        for e in self.NOT_THERE:
            # One number twice isn't one event if there is none.
            for f in self.NOT_THERE:
                self.assertEqual(ask_last(ROUND, two(e, f)), [-2])

    def test_at_the_bound(self):
        net = begin(*FORTY_EVENTS)
        self.assertEqual(ask(net, two(39, 39), two(0, 39), two(39, 40), two(40, 39), two(40, 40))[1:],
                         [[0], [3], [-2], [-2], [-2]])

    def test_ahead_of_any_begin(self):
        for e in (0, 1, BIG):
            for f in (0, 1, BIG):
                self.assertEqual(ask(two(e, f)), [[-2]])

    def test_a_net_without_events(self):
        self.assertEqual(ask_last(begin(3, [], [0, 1]), two(0, 0)), [-2])


class AgainstTheWords(unittest.TestCase):
    def hold(self, net):
        n, transitions, marking = net
        model = Model(transitions, marking)
        if ask_last(begin(*net))[0] < 0:
            return
        model.unfold()
        pairs = [(e, f) for e in range(len(model.events)) for f in range(len(model.events))]
        answers = ask_behind(begin(*net), [two(e, f) for e, f in pairs])
        self.assertIsNone(first_difference(pairs, answers, [[model.two(e, f)] for e, f in pairs]), net)
        for e, f in pairs:
            # Just one of four holds of two events: where one needs the other, what they need doesn't clash.
            if e in model.needs[f]:
                self.assertFalse(model.clash(model.needs[e], model.needs[f]), net)
                self.assertTrue(e == f or f not in model.needs[e], net)

    def test_nets_in_which_much_happens(self):
        source = random.Random(3)
        for turn in range(250):
            self.hold(random_net(source))

    def test_wild_nets(self):
        source = random.Random(4)
        for turn in range(250):
            self.hold(random_wild_net(source))

    def test_nets_with_many_events(self):
        self.hold(FORTY_EVENTS)
        self.hold(MANY_ROWS)


if __name__ == "__main__":
    unittest.main()
