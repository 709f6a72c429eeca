"""way: the fewest events behind which a marking is there, and its refusals."""

import random
import unittest

from tests.helper import BIG, FORTY_EVENTS, MANY_MARKINGS, MANY_ROWS, REACH, Model
from tests.helper import ask, ask_behind, ask_last, begin, fire_all, markings_told, random_net, random_wild_net, way

ROUND = begin(2, [([0], [1]), ([1], [0])], [0])
JOINED = begin(5, [([0], [2]), ([1], [3]), ([2, 3], [4])], [0, 1])


class Fewest(unittest.TestCase):
    def hold(self, net, marking, transitions):
        self.assertEqual(ask_last(net, way(marking)), [len(transitions), *transitions])

    def test_the_marking_at_the_beginning(self):
        self.hold(ROUND, [0], [])
        self.hold(JOINED, [0, 1], [])
        self.hold(begin(2, [([0], [1])], []), [], [])

    def test_one_event(self):
        self.hold(ROUND, [1], [0])
        self.hold(JOINED, [1, 2], [0])
        self.hold(JOINED, [0, 3], [1])

    def test_events_side_by_side(self):
        self.hold(JOINED, [2, 3], [0, 1])

    def test_events_that_need_one_another(self):
        self.hold(JOINED, [4], [0, 1, 2])

    def test_the_empty_marking(self):
        self.hold(begin(2, [([0], [1]), ([1], [])], [0]), [], [0, 1])

    def test_in_the_order_of_the_events_not_of_the_transitions(self):
        self.hold(begin(3, [([1], [2]), ([0], [1])], [0]), [2], [1, 0])

    def test_one_transition_more_than_once(self):
        # Place 0 is filled again from 1, and each time a token more is taken from the others.
        net = begin(4, [([0], [1]), ([1, 2], [0]), ([1, 3], [0])], [0, 2, 3])
        self.hold(net, [1], [0, 1, 0, 2, 0])
        self.hold(net, [0], [0, 1, 0, 2])

    def test_fewer_events_though_their_transition_comes_later(self):
        # Transitions 0 and 1 side by side, or transition 2 alone.
        net = begin(4, [([0], [2]), ([1], [3]), ([0, 1], [2, 3])], [0, 1])
        self.hold(net, [2, 3], [2])

    def test_of_as_few_the_first_event(self):
        self.hold(begin(2, [([0], [1]), ([0], [1])], [0]), [1], [0])

    def test_of_as_few_by_the_first_number_that_differs(self):
        # The events 0 and 3 come ahead of 1 and 2.
        net = begin(5, [([0, 1], [4]), ([0], [2]), ([1], [3]), ([4], [2, 3])], [0, 1])
        self.hold(net, [2, 3], [0, 3])

    def test_of_as_few_by_the_second_number(self):
        # The events 0 and 1, or 0 and 2; the transition of event 2 is the lesser one.
        net = begin(4, [([1, 2], [2, 3]), ([0], [2]), ([1], [3])], [0, 1])
        self.hold(net, [2, 3], [1, 2])

    def test_ahead_of_any_begin(self):
        self.assertEqual(ask(way([])), [[0]])

    def test_no_transitions(self):
        self.hold(begin(9, [], list(range(9))), list(range(9)), [])

    def test_many_ways_to_one_marking(self):
        # The last place has two ways, each three tokens have six: those that come first go on by turns, as the events
        # that need as few stand side by side.
        self.hold(begin(*MANY_ROWS), [0, 4], [0, 3, 6, 1, 4, 2, 5])
        self.hold(begin(*MANY_ROWS), [0, 2, 4, 8], [0, 3, 2, 4, 5])


class Refusals(unittest.TestCase):
    def test_not_rising_or_a_place_that_there_isn_t(self):
        for marking in (
            [1, 0], [0, 0], [1, 1], [2], [0, 2], [0, 1, 2], [0, 1, 1], [9], [2 ** 32], [2 ** 63], [BIG], [0, BIG],
            [BIG, 0], [BIG, BIG], list(range(20)), [0] * 20, [BIG] * 20,
        ):
            self.assertEqual(ask_last(ROUND, way(marking)), [-3], marking)

    def test_there_are_none(self):
        self.assertEqual(ask(ROUND, way([]), way([0, 1]))[1:], [[-2], [-2]])
        self.assertEqual(ask(JOINED, way([0]), way([1, 3]), way([0, 1, 2]), way([]))[1:], [[-2]] * 4)

    def test_at_the_bound(self):
        for n in range(1, 10):
            self.assertEqual(ask(begin(n, [], []), way([n - 1]), way([n]))[1:], [[-2], [-3]])

    def test_ahead_of_any_begin(self):
        self.assertEqual(ask(way([0]), way([1]), way([BIG]), way([0, 0])), [[-2], [-3], [-3], [-3]])

    def test_both(self):
        # The marking isn't there, and it isn't told as it should be.
        self.assertEqual(ask(JOINED, way([3, 1]), way([0, 4, 5]))[1:], [[-3], [-3]])


class Many(unittest.TestCase):
    def hold(self, net):
        """Held against the words, and each fired from the beginning."""
        n, transitions, marking = net
        answers = ask(begin(*net), REACH)
        if answers[0][0] < 0:
            return
        model = Model(transitions, marking)
        model.unfold()
        ways = model.ways()
        markings = markings_told(answers[1])
        self.assertEqual([tuple(told) for told in markings], sorted(ways), net)
        for told, answer in zip(markings, ask_behind(begin(*net), [way(told) for told in markings])):
            self.assertEqual(answer[0], len(answer) - 1, net)
            self.assertEqual(fire_all(transitions, marking, answer[1:]), told, net)
            self.assertEqual(answer[1:], ways[tuple(told)], net)
        self.hold_others(net, ways)

    def hold_others(self, net, ways):
        """Every other marking of the net's places has no way."""
        n = net[0]
        others = [[place for place in range(n) if bits >> place & 1] for bits in range(2 ** n)]
        others = [marking for marking in others if tuple(marking) not in ways][:59]
        self.assertEqual(ask(begin(*net), *[way(marking) for marking in others])[1:], [[-2]] * len(others), net)

    def test_nets_in_which_much_happens(self):
        source = random.Random(11)
        for turn in range(400):
            self.hold(random_net(source))

    def test_wild_nets(self):
        source = random.Random(12)
        for turn in range(400):
            self.hold(random_wild_net(source))

    def test_large_nets(self):
        for net in (FORTY_EVENTS, MANY_MARKINGS, MANY_ROWS):
            self.hold(net)


if __name__ == "__main__":
    unittest.main()
