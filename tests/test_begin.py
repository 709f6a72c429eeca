"""begin: nets unfolded to their end, and in which order events come."""

import random
import unittest

from tests.helper import CONDITIONS, EVENTS, FORTY_EVENTS, MANY_MARKINGS
from tests.helper import answered, ask, ask_last, begin, event, expected, random_net, random_wild_net
from tests.helper import transitions_of

SIDE_BY_SIDE = begin(5, [([0], [2]), ([1], [3]), ([2, 3], [4])], [0, 1])


class Nets(unittest.TestCase):
    def test_no_transitions(self):
        self.assertEqual(ask(begin(3, [], [0, 2]), EVENTS, CONDITIONS), [[0, 2, 0], [0], [2, 0, -1, 2, -1]])

    def test_one_place_and_nothing_else(self):
        self.assertEqual(ask(begin(1, [], []), EVENTS, CONDITIONS), [[0, 0, 0], [0], [0]])

    def test_empty_marking(self):
        self.assertEqual(ask(begin(2, [([0], [1])], []), EVENTS, CONDITIONS), [[0, 0, 0], [0], [0]])

    def test_transition_that_never_may_fire(self):
        self.assertEqual(ask_last(begin(3, [([0, 1], [2])], [0])), [0, 1, 0])

    def test_puts_into_nothing(self):
        self.assertEqual(
            ask(begin(1, [([0], [])], [0]), EVENTS, CONDITIONS, event(0)),
            [[1, 1, 0], [1, 0, 0, 1, 0], [1, 0, -1], [1, 0]],
        )

    def test_puts_into_all_from_which_it_takes(self):
        self.assertEqual(
            ask(begin(1, [([0], [0])], [0]), EVENTS, CONDITIONS, event(0)),
            [[1, 2, 1], [1, 0, 1, 1, 0], [2, 0, -1, 0, 0], [1, 0, 0]],
        )

    def test_puts_into_one_from_which_it_takes(self):
        self.assertEqual(
            ask(begin(3, [([0, 1], [1, 2])], [0, 1]), EVENTS, CONDITIONS, event(0)),
            [[1, 4, 0], [1, 0, 0, 2, 0, 1], [4, 0, -1, 1, -1, 1, 0, 2, 0], [1, 0, 1, 2]],
        )

    def test_two_that_shut_one_another_out(self):
        # What needs both is never possible.
        self.assertEqual(
            ask(begin(4, [([0], [1]), ([0], [2]), ([1, 2], [3])], [0]), EVENTS, CONDITIONS),
            [[2, 3, 0], [2, 0, 0, 1, 0, 1, 0, 1, 0], [3, 0, -1, 1, 0, 2, 1]],
        )

    def test_two_that_shut_out_by_what_they_need(self):
        # One way makes 2 and, later, 3; the other makes 4: 3 and 4 clash though they are made by others.
        net = begin(6, [([0], [2]), ([0], [4]), ([2], [3]), ([3, 4], [5])], [0])
        self.assertEqual(ask(net, EVENTS)[0], [3, 4, 0])
        self.assertEqual(transitions_of(ask_last(net, EVENTS)), [0, 1, 2])

    def test_a_condition_isn_t_there_with_what_came_from_it(self):
        # 0 became 1: no event uses both, though neither clashes.
        self.assertEqual(ask_last(begin(3, [([0], [1]), ([0, 1], [2])], [0])), [1, 2, 0])

    def test_two_side_by_side(self):
        self.assertEqual(
            ask(SIDE_BY_SIDE, EVENTS, CONDITIONS, event(0), event(1), event(2)),
            [
                [3, 5, 0],
                [3, 0, 0, 1, 0, 1, 0, 1, 1, 2, 0, 2, 2, 3],
                [5, 0, -1, 1, -1, 2, 0, 3, 1, 4, 2],
                [1, 0, 1, 2],
                [1, 1, 0, 3],
                [3, 0, 1, 2, 4],
            ],
        )

    def test_one_that_needs_another_twice_needs_it_once(self):
        # Both conditions that the second uses come from the first.
        self.assertEqual(
            ask(begin(4, [([0], [1, 2]), ([1, 2], [3])], [0]), event(1)), [[2, 4, 0], [2, 0, 1, 3]]
        )

    def test_forty_events(self):
        self.assertEqual(ask_last(begin(*FORTY_EVENTS)), [40, 41, 0])

    def test_a_hundred_and_twenty_eight_markings(self):
        self.assertEqual(ask_last(begin(*MANY_MARKINGS)), [7, 8, 0])

    def test_eight_transitions_and_nine_places(self):
        net = begin(9, [([place], [place + 1]) for place in range(8)], [0])
        self.assertEqual(ask(net, event(7)), [[8, 9, 0], [8, 0, 1, 2, 3, 4, 5, 6, 7, 8]])


class CutOff(unittest.TestCase):
    def test_by_the_marking_at_the_beginning(self):
        self.assertEqual(
            ask(begin(2, [([0], [1]), ([1], [0])], [0]), EVENTS, CONDITIONS, event(1)),
            [[2, 3, 1], [2, 0, 0, 1, 0, 1, 1, 1, 1], [3, 0, -1, 1, 0, 0, 1], [2, 0, 1, 0]],
        )

    def test_by_an_event_that_it_needs(self):
        self.assertEqual(
            ask(begin(3, [([0], [1]), ([1], [2]), ([2], [1])], [0]), EVENTS),
            [[3, 4, 1], [3, 0, 0, 1, 0, 1, 0, 1, 1, 2, 1, 1, 2]],
        )

    def test_by_an_event_with_which_it_clashes(self):
        self.assertEqual(
            ask(begin(3, [([0], [1]), ([0], [2]), ([2], [1])], [0]), EVENTS),
            [[3, 4, 1], [3, 0, 0, 1, 0, 1, 0, 1, 0, 2, 1, 1, 2]],
        )

    def test_not_by_an_event_that_needs_as_many(self):
        # Both ways come to the same marking, and go on from there.
        self.assertEqual(
            ask(begin(3, [([0], [1]), ([0], [1]), ([1], [2])], [0]), EVENTS),
            [[4, 5, 0], [4, 0, 0, 1, 0, 1, 0, 1, 0, 2, 0, 1, 1, 2, 0, 1, 2]],
        )

    def test_by_the_empty_marking(self):
        # Place 0 becomes empty at once, or by way of 1.
        net = begin(2, [([0], []), ([0], [1]), ([1], [])], [0])
        self.assertEqual(ask(net, EVENTS), [[3, 2, 1], [3, 0, 0, 1, 0, 1, 0, 1, 0, 2, 1, 1, 1]])

    def test_what_it_made_is_not_used(self):
        # The first is cut off and made place 0 anew (condition 2); the second uses condition 0 alone.
        self.assertEqual(
            ask(begin(3, [([0], [0]), ([0, 1], [2])], [0, 1]), EVENTS, CONDITIONS),
            [[2, 4, 1], [2, 0, 1, 1, 0, 1, 0, 2, 0, 1], [4, 0, -1, 1, -1, 0, 0, 2, 1]],
        )


class Order(unittest.TestCase):
    def test_the_one_that_needs_fewer_comes_first(self):
        net = begin(5, [([1], [2]), ([0], [1]), ([3], [4])], [0, 3])
        self.assertEqual(
            ask(net, EVENTS, CONDITIONS)[1:],
            [[3, 1, 0, 1, 0, 2, 0, 1, 1, 0, 0, 1, 2], [5, 0, -1, 3, -1, 1, 0, 4, 1, 2, 2]],
        )

    def test_all_that_is_needed_counts(self):
        # Transition 0 needs two events side by side, transition 1 one event: neither needs a row of two.
        net = begin(7, [([3, 4], []), ([5], [6]), ([0], [3]), ([1], [4]), ([2], [5])], [0, 1, 2])
        self.assertEqual(transitions_of(ask_last(net, EVENTS)), [2, 3, 4, 1, 0])

    def test_of_as_few_the_least_transition(self):
        self.assertEqual(
            ask_last(begin(2, [([1], []), ([0], [])], [0, 1]), EVENTS), [2, 0, 0, 1, 1, 1, 0, 1, 0]
        )

    def test_of_one_transition_the_conditions_that_come_first(self):
        # Place 1 is made by two events: conditions 2 and 3, each used with condition 0.
        net = begin(4, [([2], [1]), ([2], [1]), ([0, 1], [3])], [0, 2])
        self.assertEqual(
            ask_last(net, EVENTS), [4, 0, 0, 1, 1, 1, 0, 1, 1, 2, 0, 2, 0, 2, 2, 0, 2, 0, 3]
        )

    def test_conditions_come_first_in_the_places_order(self):
        # Places 0 and 1 are made as conditions 3 and 6, or as 5 and 1: the first comes first, since 3 < 5.
        net = begin(5, [([2], [1, 3]), ([2], [0, 4]), ([3], [0]), ([4], [1]), ([0, 1], [])], [2])
        self.assertEqual(
            ask(net, EVENTS),
            [[6, 7, 0], [6, 0, 0, 1, 0, 1, 0, 1, 0, 2, 0, 1, 2, 3, 0, 1, 4, 4, 0, 2, 3, 6, 4, 0, 2, 5, 1]],
        )


class AgainstTheWords(unittest.TestCase):
    """Many nets, held against the document's words tried out one by one."""

    def hold(self, net):
        self.assertEqual(answered(*net), expected(*net), net)

    def test_nets_in_which_much_happens(self):
        source = random.Random(1)
        for turn in range(1500):
            self.hold(random_net(source))

    def test_wild_nets(self):
        source = random.Random(2)
        for turn in range(1500):
            self.hold(random_wild_net(source))

    def test_nets_at_the_bounds(self):
        self.hold(FORTY_EVENTS)
        self.hold(MANY_MARKINGS)


if __name__ == "__main__":
    unittest.main()
