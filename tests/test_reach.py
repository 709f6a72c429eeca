"""reach: the markings that are there behind events that can have happened, and in which order they are told."""

import random
import unittest

from tests.helper import FORTY_EVENTS, MANY_MARKINGS, MANY_ROWS, REACH
from tests.helper import ask, ask_last, begin, markings_come_to, markings_told, random_net, random_wild_net


class Markings(unittest.TestCase):
    def hold(self, net, markings):
        self.assertEqual(markings_told(ask_last(begin(*net), REACH)), markings)

    def test_ahead_of_any_begin(self):
        self.assertEqual(ask(REACH), [[1, 0]])

    def test_what_is_told_number_by_number(self):
        self.assertEqual(ask_last(begin(3, [([0], [1, 2])], [0]), REACH), [2, 1, 0, 2, 1, 2])

    def test_no_transitions(self):
        self.hold((3, [], [0, 2]), [[0, 2]])
        self.hold((3, [], []), [[]])

    def test_a_transition_that_never_may_fire(self):
        self.hold((3, [([0, 1], [2])], [0]), [[0]])

    def test_an_empty_marking_behind_an_event(self):
        self.hold((1, [([0], [])], [0]), [[], [0]])
        self.hold((3, [([0], [1]), ([1], [])], [0]), [[], [0], [1]])

    def test_round(self):
        self.hold((2, [([0], [1]), ([1], [0])], [0]), [[0], [1]])
        self.hold((1, [([0], [0])], [0]), [[0]])

    def test_side_by_side(self):
        # No event needs just those behind which 2 and 3 have a token.
        self.hold((5, [([0], [2]), ([1], [3]), ([2, 3], [4])], [0, 1]), [[0, 1], [0, 3], [1, 2], [2, 3], [4]])

    def test_two_that_shut_one_another_out(self):
        self.hold((4, [([0], [2]), ([0], [3])], [0, 1]), [[0, 1], [1, 2], [1, 3]])

    def test_a_marking_that_is_there_in_several_ways_is_told_once(self):
        self.hold((3, [([0], [1]), ([0], [1]), ([1], [2]), ([0], [2])], [0]), [[0], [1], [2]])

    def test_a_cut_off_event_beside_others(self):
        self.hold((3, [([0], [0]), ([1], [2])], [0, 1]), [[0, 1], [0, 2]])


class Order(unittest.TestCase):
    def test_one_that_ends_first_comes_first(self):
        net = begin(3, [([0], []), ([1], []), ([2], [])], [0, 1, 2])
        self.assertEqual(
            markings_told(ask_last(net, REACH)), [[], [0], [0, 1], [0, 1, 2], [0, 2], [1], [1, 2], [2]]
        )

    def test_by_the_first_place_at_which_they_differ(self):
        # Not by how many places they have, and not by the last place.
        net = begin(5, [([1], [0, 3, 4]), ([1], [2]), ([1], [0, 4])], [1])
        self.assertEqual(markings_told(ask_last(net, REACH)), [[0, 3, 4], [0, 4], [1], [2]])

    def test_the_marking_at_the_beginning_may_come_last(self):
        self.assertEqual(markings_told(ask_last(begin(3, [([2], [1]), ([1], [0])], [2]), REACH)), [[0], [1], [2]])


class Many(unittest.TestCase):
    """What reach tells is just what the transitions come to."""

    def hold(self, net):
        answers = ask(begin(*net), REACH)
        if answers[0][0] >= 0:
            told = markings_told(answers[1])
            self.assertEqual(told, sorted(sorted(marking) for marking in markings_come_to(*net[1:])), net)
            return len(told)
        return 0

    def test_a_hundred_and_twenty_eight_markings(self):
        answer = ask_last(begin(*MANY_MARKINGS), REACH)
        self.assertEqual(answer[:8], [128, 8, 0, 1, 2, 3, 4, 5])
        self.assertEqual(answer[-2:], [1, 7])
        self.assertEqual(self.hold(MANY_MARKINGS), 128)
        self.assertEqual(self.hold(MANY_ROWS), 128)

    def test_a_long_answer(self):
        # The tokens of the places 0 and 1 stay.
        net = (9, [([place], []) for place in range(2, 9)], list(range(9)))
        self.assertEqual(self.hold(net), 128)
        self.assertEqual(len(ask_last(begin(*net), REACH)), 1 + 128 * 3 + 64 * 7)

    def test_forty_events(self):
        self.assertEqual(self.hold(FORTY_EVENTS), 7)

    def test_nets_in_which_much_happens(self):
        source = random.Random(9)
        self.assertGreater(sum(self.hold(random_net(source)) > 5 for turn in range(1500)), 300)

    def test_wild_nets(self):
        source = random.Random(10)
        self.assertGreater(sum(self.hold(random_wild_net(source)) > 1 for turn in range(1500)), 150)


if __name__ == "__main__":
    unittest.main()
