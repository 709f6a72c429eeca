"""The four promises that hold of the whole program, for many nets, by what the calls answer."""

import itertools
import random
import unittest

from tests.helper import CONDITIONS, EVENTS, REACH, Model
from tests.helper import ask, ask_behind, begin, event, fire_all, first_difference, markings_come_to, markings_told
from tests.helper import random_net, random_wild_net, there, transitions_of, two, way


def subsets(numbers):
    numbers = list(numbers)
    for count in range(len(numbers) + 1):
        yield from itertools.combinations(numbers, count)


class Told:
    """A net, what the calls tell of it, and the slow reading of the document beside it."""

    def __init__(self, net):
        self.net = net
        self.n, self.transitions, self.marking = net
        self.begin = begin(*net)
        first, events, conditions, reach = ask(self.begin, EVENTS, CONDITIONS, REACH)
        self.event_count, self.condition_count, self.cut_count = first
        self.transition_of = transitions_of(events)
        self.markings = markings_told(reach)
        self.needs = []
        self.behind = []
        for answer in ask_behind(self.begin, [event(e) for e in range(self.event_count)]):
            self.needs.append(set(answer[1:1 + answer[0]]))
            self.behind.append(answer[1 + answer[0]:])
        self.model = Model(self.transitions, self.marking)
        self.model.unfold()

    def fire(self, events):
        """The marking behind these events in this order, or None if they don't fire so."""
        return fire_all(self.transitions, self.marking, [self.transition_of[e] for e in events])


def small_nets(seed, make, most_events, most_conditions, turns):
    """Nets that begin takes, with few enough events and conditions to try all of them."""
    source = random.Random(seed)
    found = []
    for turn in range(turns):
        net = make(source)
        first = ask(begin(*net))[0]
        if first[0] >= 0 and first[0] <= most_events and first[1] <= most_conditions:
            found.append(Told(net))
    return found


class Promises(unittest.TestCase):
    @classmethod
    def setUpClass(cls):
        cls.nets = small_nets(13, random_net, 14, 24, 250) + small_nets(14, random_wild_net, 14, 24, 250)
        cls.least = [told for told in cls.nets if told.event_count <= 9 and told.condition_count <= 9]

    def test_there_are_many_nets(self):
        self.assertGreater(len([told for told in self.nets if told.event_count > 5]), 100)
        self.assertGreater(len([told for told in self.least if told.event_count > 2]), 60)
        self.assertGreater(len([told for told in self.least if told.cut_count > 0]), 60)

    def test_all_rows_of_events_are_tried(self):
        # What the slow reading takes for events that can have happened are all that the words allow.
        for told in self.least:
            rows = {frozenset(row) for row in subsets(range(told.event_count))}
            allowed = {row for row in rows if told.model.can_have_happened(row)}
            self.assertEqual(told.model.rows_that_can_have_happened(), allowed, told.net)

    def test_1_what_is_there_is_come_to_and_all_that_is_come_to_is_there(self):
        for told in self.nets:
            come_to = sorted(sorted(marking) for marking in markings_come_to(told.transitions, told.marking))
            behind = {tuple(sorted(told.model.marking_behind(row))) for row in told.model.rows_not_cut_off()}
            self.assertEqual(told.markings, come_to, told.net)
            self.assertEqual(sorted(behind), [tuple(marking) for marking in come_to], told.net)

    def test_2_in_the_order_of_their_numbers(self):
        for told in self.nets:
            for row in told.model.rows_that_can_have_happened():
                self.assertEqual(told.fire(sorted(row)), sorted(told.model.marking_behind(row)), told.net)
            for needs, behind in zip(told.needs, told.behind):
                self.assertEqual(told.fire(sorted(needs)), behind, told.net)
            ways = ask_behind(told.begin, [way(marking) for marking in told.markings])
            for marking, answer in zip(told.markings, ways):
                self.assertEqual(fire_all(told.transitions, told.marking, answer[1:]), marking, told.net)

    def test_3_in_either_order(self):
        for told in self.nets:
            pairs = list(itertools.permutations(range(told.event_count), 2))
            answers = ask_behind(told.begin, [two(e, f) for e, f in pairs])
            for (e, f), answer in zip(pairs, answers):
                before = sorted((told.needs[e] | told.needs[f]) - {e, f})
                orders = [told.fire(before + [e, f]), told.fire(before + [f, e])]
                if answer == [4]:
                    self.assertTrue(told.model.can_have_happened(set(before)), told.net)
                    self.assertIsNotNone(orders[0], told.net)
                    self.assertEqual(orders[0], orders[1], told.net)

    def test_3_else_not(self):
        # Events that clash are in no row together; one that needs another isn't in a row without it.
        for told in self.least:
            rows = told.model.rows_that_can_have_happened()
            pairs = list(itertools.permutations(range(told.event_count), 2))
            for (e, f), answer in zip(pairs, ask_behind(told.begin, [two(e, f) for e, f in pairs])):
                self.assertEqual(answer == [3], not any({e, f} <= row for row in rows), told.net)
                self.assertEqual(answer == [1], all(e in row for row in rows if f in row), told.net)
                self.assertEqual(answer == [2], all(f in row for row in rows if e in row), told.net)

    def test_4_conditions_at_once_are_there_behind_some_events(self):
        for told in self.least:
            behind = [told.model.there_behind(row) for row in told.model.rows_that_can_have_happened()]
            chosen = list(subsets(range(told.condition_count)))
            answers = ask_behind(told.begin, [there(row) for row in chosen])
            wanted = [[int(any(set(row) <= found for found in behind))] for row in chosen]
            self.assertIsNone(first_difference(chosen, answers, wanted), told.net)


if __name__ == "__main__":
    unittest.main()
