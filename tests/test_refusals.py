"""begin's refusals, each by itself and several at once, and that a refused begin changes nothing."""

import unittest

from tests.helper import BIG, CONDITIONS, EVENTS, FORTY_ONE_EVENTS, TOO_MANY_MARKINGS
from tests.helper import ask, ask_last, begin, begin_with, event, markings_come_to

NINE_TRANSITIONS = [([0], [0])] * 9
# Of three places: not told as begin's transitions are to be told.
TOLD_WRONG = [
    [1],
    [3, 0, 1],
    [1, 0],
    [0],
    [1, 0, 1],
    [1, 0, 2, 1],
    [1, 0, 1, 1, 0],
    [1, 0, 1, 1, 1],
    [1, 0, 1, 1, 1, 2],
    [1, 0, 0, 7],
    [2, 1, 0, 0],
    [2, 0, 0, 0],
    [3, 0, 2, 1, 0],
    [1, 3, 0],
    [1, 0, 2, 1, 0],
    [1, 0, 2, 1, 1],
    [1, 0, 1, 3],
    [BIG],
    [1, 0, BIG],
    [BIG, 0, 0],
    [1, BIG, 0],
    [1, 0, 1, BIG],
    [2, 0, BIG, 0],
    [1, 0, 1, 1, 1, 1, 1, 3],
    [4, 0, 1, 2, 3, 0],
    [0] * 299,
]
MARKED_WRONG = [[3], [0, 3], [1, 0], [0, 2, 1], [0, 0], [2, 2], [BIG], [0, BIG], [0, 1, 2, 3], list(range(20))]


class OneByOne(unittest.TestCase):
    def test_number_of_places(self):
        for n in (0, 10, 11, 2 ** 32, 2 ** 63, BIG):
            self.assertEqual(ask_last(begin(n, [], [])), [-1], n)
        for n in range(1, 10):
            self.assertEqual(ask_last(begin(n, [], [n - 1])), [0, 1, 0], n)

    def test_transitions_not_told_so(self):
        for numbers in TOLD_WRONG:
            self.assertEqual(ask_last(begin_with(3, numbers, [0])), [-3], numbers)

    def test_marking_not_told_so(self):
        for marking in MARKED_WRONG:
            self.assertEqual(ask_last(begin(3, [([0], [1])], marking)), [-3], marking)

    def test_places_just_at_the_bound(self):
        for n in range(1, 10):
            last = n - 1
            self.assertEqual(ask_last(begin(n, [([last], [last])], [last])), [1, 2, 1])
            self.assertEqual(ask_last(begin(n, [([n], [])], [last])), [-3])
            self.assertEqual(ask_last(begin(n, [([last], [n])], [last])), [-3])
            self.assertEqual(ask_last(begin(n, [([last], [])], [n])), [-3])

    def test_too_many_transitions(self):
        self.assertEqual(ask_last(begin(1, NINE_TRANSITIONS[:8], [0])), [8, 9, 8])
        self.assertEqual(ask_last(begin(1, NINE_TRANSITIONS, [0])), [-1])
        self.assertEqual(ask_last(begin(1, NINE_TRANSITIONS, [])), [-1])
        self.assertEqual(ask_last(begin(1, [([0], [])] * 100, [0])), [-1])

    def test_a_transition_that_takes_nothing(self):
        self.assertEqual(ask_last(begin(2, [([], [1])], [0])), [-1])
        self.assertEqual(ask_last(begin(2, [([], [])], [])), [-1])
        self.assertEqual(ask_last(begin(2, [([0], [1]), ([], [])], [0])), [-1])
        self.assertEqual(ask_last(begin(2, [([], [])] * 150, [0])), [-1])

    def test_two_tokens_at_once(self):
        self.assertEqual(ask_last(begin(2, [([0], [1])], [0, 1])), [-4])
        self.assertEqual(ask_last(begin(3, [([0], [1, 2])], [0, 2])), [-4])

    def test_two_tokens_later(self):
        self.assertEqual(ask_last(begin(3, [([0], [1]), ([1], [2])], [0, 2])), [-4])
        # A place that is filled again and again.
        self.assertEqual(ask_last(begin(2, [([0], [0, 1])], [0])), [-4])
        # Two ways side by side come together.
        self.assertEqual(ask_last(begin(3, [([0], [2]), ([1], [2])], [0, 1])), [-4])

    def test_not_two_tokens(self):
        # It takes from the place into which it puts.
        self.assertEqual(ask_last(begin(2, [([0, 1], [1])], [0, 1])), [1, 3, 0])
        # It may never fire.
        self.assertEqual(ask_last(begin(3, [([2], [0])], [0])), [0, 1, 0])
        # Only one of the two ways can be gone.
        self.assertEqual(ask_last(begin(3, [([0], [2]), ([0], [2])], [0])), [2, 3, 0])

    def test_too_many_markings(self):
        self.assertEqual(len(markings_come_to(*TOO_MANY_MARKINGS[1:])), 129)
        self.assertEqual(ask_last(begin(*TOO_MANY_MARKINGS)), [-4])
        self.assertEqual(ask_last(begin(8, [([place], []) for place in range(8)], list(range(8)))), [-4])

    def test_too_many_events(self):
        self.assertEqual(ask_last(begin(*FORTY_ONE_EVENTS)), [-5])


class Several(unittest.TestCase):
    def test_number_of_places_ahead_of_all(self):
        for n in (0, 10, BIG):
            for numbers in TOLD_WRONG:
                self.assertEqual(ask_last(begin_with(n, numbers, [2, 1])), [-1])
            self.assertEqual(ask_last(begin(n, [], [BIG])), [-1])
            self.assertEqual(ask_last(begin(n, *FORTY_ONE_EVENTS[1:])), [-1])

    def test_both_lists_wrong(self):
        self.assertEqual(ask_last(begin_with(3, [1], [3])), [-3])

    def test_lists_ahead_of_transitions(self):
        self.assertEqual(ask_last(begin(3, NINE_TRANSITIONS, [1, 0])), [-3])
        self.assertEqual(ask_last(begin(3, NINE_TRANSITIONS + [([0], [3])], [0])), [-3])
        self.assertEqual(ask_last(begin(3, [([], [1])], [3])), [-3])
        self.assertEqual(ask_last(begin_with(3, [0, 0, 1], [0])), [-3])
        # The 0 that is left over begins a transition that isn't told to its end.
        self.assertEqual(ask_last(begin_with(3, [1, 0, 0, 0], [0])), [-3])

    def test_lists_ahead_of_bounds(self):
        self.assertEqual(ask_last(begin(2, [([0], [1]), ([0, 0], [])], [0, 1])), [-3])

    def test_transitions_ahead_of_bounds(self):
        self.assertEqual(ask_last(begin(2, [([0], [1])] * 9, [0, 1])), [-1])
        self.assertEqual(ask_last(begin(2, [([0], [1]), ([], [])], [0, 1])), [-1])
        nine_places = [([place], []) for place in range(9)]
        self.assertEqual(ask_last(begin(9, nine_places, list(range(9)))), [-1])

    def test_transitions_ahead_of_events(self):
        n, transitions, marking = FORTY_ONE_EVENTS
        self.assertEqual(ask_last(begin(n, transitions + [([0], [])], marking)), [-1])

    def test_bounds_ahead_of_events(self):
        n, transitions, marking = FORTY_ONE_EVENTS
        # The seventh transition fills place 5 as well, which may have a token or not.
        doubling = transitions[:6] + [([2, 4], [3, 4, 5])] + transitions[7:]
        self.assertEqual(ask_last(begin(6, doubling, marking)), [-5])
        self.assertEqual(ask_last(begin(6, doubling, marking + [5])), [-4])


class AllAsItWas(unittest.TestCase):
    REFUSED = [
        (begin(0, [], []), -1),
        (begin(10, [([0], [1])], [0]), -1),
        (begin_with(3, [1, 0], [0]), -3),
        (begin(3, [([0], [1])], [1, 0]), -3),
        (begin(1, NINE_TRANSITIONS, [0]), -1),
        (begin(2, [([], [1])], [0]), -1),
        (begin(3, [([0], [1]), ([1], [2])], [0, 2]), -4),
        (begin(*TOO_MANY_MARKINGS), -4),
        (begin(*FORTY_ONE_EVENTS), -5),
    ]
    ASKED = (EVENTS, CONDITIONS, event(0), event(1), event(2), event(40))

    def test_behind_a_net(self):
        net = begin(2, [([0], [1]), ([1], [0])], [0])
        before = ask(net, *self.ASKED)[1:]
        for refused, number in self.REFUSED:
            self.assertEqual(ask(net, refused, *self.ASKED), [[2, 3, 1], [number], *before])
            self.assertEqual(ask(net, *self.ASKED, refused, *self.ASKED)[-6:], before)

    def test_as_the_first_call(self):
        nothing = [[0], [0], [-2], [-2], [-2], [-2]]
        for refused, number in self.REFUSED:
            self.assertEqual(ask(refused, *self.ASKED), [[number], *nothing])

    def test_many_behind_one_another(self):
        net = begin(3, [([0], [1, 2])], [0])
        calls = [refused for refused, number in self.REFUSED]
        numbers = [[number] for refused, number in self.REFUSED]
        self.assertEqual(ask(net, *calls, EVENTS), [[1, 3, 0], *numbers, [1, 0, 0, 1, 0]])

    def test_one_that_is_not_refused_behind_one_that_is(self):
        net = begin(1, [([0], [])], [0])
        for refused, number in self.REFUSED:
            self.assertEqual(ask(refused, net, EVENTS), [[number], [1, 1, 0], [1, 0, 0, 1, 0]])


if __name__ == "__main__":
    unittest.main()
