"""Lists of 60 calls on large nets, answered whole."""

import math
import unittest

from netsunfolded.events import answers
from tests.helper import FORTY_EVENTS, MANY_MARKINGS, MANY_ROWS, REACH, Model
from tests.helper import ask, begin, event, fire_all, markings_come_to, markings_told, split, there, two, way

LARGE = (FORTY_EVENTS, MANY_MARKINGS, MANY_ROWS)


class Large(unittest.TestCase):
    def test_how_large_they_are(self):
        self.assertEqual(
            [ask(begin(*net))[0] for net in LARGE], [[40, 41, 0], [7, 8, 0], [32, 39, 0]]
        )
        self.assertEqual([len(markings_come_to(*net[1:])) for net in LARGE], [7, 128, 128])
        model = Model(*MANY_ROWS[1:])
        model.unfold()
        self.assertEqual(len(model.rows_that_can_have_happened()), 768)

    def test_reach_again_and_again(self):
        for net in LARGE:
            rows = split(answers(begin(*net) + REACH * 59))
            self.assertEqual(len(rows), 60)
            markings = sorted(sorted(marking) for marking in markings_come_to(*net[1:]))
            for row in rows[1:]:
                self.assertEqual(markings_told(row), markings)

    def test_way_again_and_again(self):
        for n, transitions, marking in LARGE:
            markings = sorted(sorted(found) for found in markings_come_to(transitions, marking))
            asked = (markings * math.ceil(59 / len(markings)))[-59:]
            rows = ask(begin(n, transitions, marking), *[way(found) for found in asked])
            self.assertEqual(len(rows), 60)
            for found, row in zip(asked, rows[1:]):
                self.assertEqual(row[0], len(row) - 1)
                self.assertEqual(fire_all(transitions, marking, row[1:]), found)

    def test_begin_and_reach_by_turns(self):
        for net in LARGE:
            one = answers(begin(*net) + REACH)
            self.assertEqual(answers((begin(*net) + REACH) * 30), one * 30)

    def test_reach_on_one_net_behind_another(self):
        calls = [number for net in LARGE * 10 for number in begin(*net) + REACH]
        alone = [number for net in LARGE * 10 for number in answers(begin(*net) + REACH)]
        self.assertEqual(answers(calls), alone)

    def test_all_calls(self):
        for net in LARGE:
            n, transitions, marking = net
            last = ask(begin(*net))[0]
            every = [
                [2], [3], event(last[0] - 1), two(0, last[0] - 1), there([last[1] - 1]),
                there(list(range(last[1]))), REACH, way(marking),
            ]
            rows = ask(begin(*net), *every * 7)
            self.assertEqual(len(rows), 57)
            self.assertEqual(rows[1:], rows[1:9] * 7)
            self.assertEqual([row[0] for row in rows[1:3]], last[:2])
            # Where no event makes a condition all of them are from the beginning.
            all_at_once = [int(net == MANY_MARKINGS)]
            self.assertEqual(rows[5:7] + rows[8:9], [[1], all_at_once, [0]])


if __name__ == "__main__":
    unittest.main()
