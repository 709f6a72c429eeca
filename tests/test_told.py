"""events, conditions and event: ahead of any begin, behind one and behind several."""

import unittest

from tests.helper import BIG, CONDITIONS, EVENTS, FORTY_EVENTS
from tests.helper import ask, ask_last, begin, event

ROUND = begin(2, [([0], [1]), ([1], [0])], [0])
JOINED = begin(5, [([0], [2]), ([1], [3]), ([2, 3], [4])], [0, 1])
NOTHING = begin(4, [], [1, 3])


class AheadOfBegin(unittest.TestCase):
    def test_nothing_is_unfolded(self):
        self.assertEqual(ask(EVENTS, CONDITIONS), [[0], [0]])

    def test_there_is_no_event(self):
        for e in (0, 1, 40, 2 ** 63, BIG):
            self.assertEqual(ask(event(e)), [[-2]])

    def test_begin_may_come_later(self):
        self.assertEqual(ask(EVENTS, CONDITIONS, event(0), ROUND, event(0)), [[0], [0], [-2], [2, 3, 1], [1, 0, 1]])


class Told(unittest.TestCase):
    def test_events_in_the_places_order(self):
        # The condition for place 0 has the greater number: it is made later.
        net = begin(3, [([2], [0]), ([0, 1], [])], [1, 2])
        self.assertEqual(
            ask(net, EVENTS, CONDITIONS), [[2, 3, 0], [2, 0, 0, 1, 1, 1, 0, 2, 2, 0], [3, 1, -1, 2, -1, 0, 0]]
        )

    def test_conditions_of_an_event_rise_by_place(self):
        net = begin(9, [([4], [0, 3, 8])], [4, 7])
        self.assertEqual(ask_last(net, CONDITIONS), [5, 4, -1, 7, -1, 0, 0, 3, 0, 8, 0])

    def test_places_of_an_event_rise(self):
        # What's there are conditions 1 and 2, of the places 7 and 2.
        net = begin(8, [([5], [2])], [5, 7])
        self.assertEqual(ask_last(net, event(0)), [1, 0, 2, 7])

    def test_an_event_that_leaves_nothing(self):
        net = begin(2, [([0], [1]), ([1], [])], [0])
        self.assertEqual(ask_last(net, event(1)), [2, 0, 1])

    def test_an_event_needs_no_more_than_it_needs(self):
        # Event 1 happens beside the others; what it uses is still there behind them.
        net = begin(5, [([0], [2]), ([1], [3]), ([2], [4])], [0, 1])
        self.assertEqual(ask(net, event(1), event(2))[1:], [[1, 1, 0, 3], [2, 0, 2, 1, 4]])

    def test_an_event_that_is_cut_off(self):
        self.assertEqual(ask(ROUND, event(1))[1], [2, 0, 1, 0])

    def test_numbers_that_there_are_and_that_there_aren_t(self):
        for e in (2, 3, 40, 2 ** 32, 2 ** 63, BIG):
            self.assertEqual(ask_last(ROUND, event(e)), [-2], e)
        self.assertEqual(ask_last(begin(*FORTY_EVENTS), event(39))[0], 4)
        self.assertEqual(ask_last(begin(*FORTY_EVENTS), event(40)), [-2])
        self.assertEqual(ask_last(NOTHING, event(0)), [-2])

    def test_a_refusal_changes_nothing(self):
        self.assertEqual(ask(ROUND, EVENTS, event(2), EVENTS)[3], ask(ROUND, EVENTS)[1])


class SeveralNets(unittest.TestCase):
    ASKED = (EVENTS, CONDITIONS, event(0), event(1), event(2))

    def test_each_begin_takes_the_place_of_the_net_before(self):
        nets = [ROUND, JOINED, NOTHING, JOINED, ROUND, NOTHING]
        calls = [call for net in nets for call in (net, *self.ASKED)]
        alone = [answer for net in nets for answer in ask(net, *self.ASKED)]
        self.assertEqual(ask(*calls), alone)

    def test_the_last_one_counts(self):
        self.assertEqual(ask(JOINED, ROUND, NOTHING, *self.ASKED)[3:], [[0], [2, 1, -1, 3, -1], [-2], [-2], [-2]])

    def test_the_same_net_again(self):
        self.assertEqual(ask(ROUND, ROUND, EVENTS)[1:], ask(ROUND, EVENTS))


if __name__ == "__main__":
    unittest.main()
