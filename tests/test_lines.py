"""All eight calls in one line: what is refused changes nothing, and begin begins anew."""

import random
import unittest

from tests.helper import BIG, CONDITIONS, EVENTS, FORTY_ONE_EVENTS, REACH, TOO_MANY_MARKINGS, SlowLine
from tests.helper import ask, begin, begin_with, event, first_difference, random_net, random_wild_net, there, two, way

ROUND = begin(2, [([0], [1]), ([1], [0])], [0])
JOINED = begin(5, [([0], [2]), ([1], [3]), ([2, 3], [4])], [0, 1])
APART = begin(5, [([0], [1]), ([0], [2]), ([1], [3]), ([2], [4])], [0])
NOTHING = begin(4, [], [1, 3])

# Some of these are refused behind some nets; that they are is part of what they answer.
ASKED = (
    EVENTS, CONDITIONS, event(0), event(2), two(0, 1), two(2, 0), there([]), there([0, 1]), there([3, 4]), REACH,
    way([0]), way([1, 3]), way([4]), way([2, 3]),
)
REFUSED = [
    (begin(0, [], []), -1),
    (begin_with(3, [1, 0], [0]), -3),
    (begin(3, [([0], [1])], [1, 0]), -3),
    (begin(2, [([], [1])], [0]), -1),
    (begin(3, [([0], [1]), ([1], [2])], [0, 2]), -4),
    (begin(*TOO_MANY_MARKINGS), -4),
    (begin(*FORTY_ONE_EVENTS), -5),
    (event(40), -2),
    (event(BIG), -2),
    (two(0, 40), -2),
    (two(BIG, 0), -2),
    (there([1, 0]), -3),
    (there([0, 0]), -3),
    (there([BIG]), -3),
    (there(list(range(400))), -3),
    (way([1, 0]), -3),
    (way([9]), -3),
    (way([0, BIG]), -3),
]


class AllAsItWas(unittest.TestCase):
    def test_behind_a_refused_call(self):
        for net in (ROUND, JOINED, APART, NOTHING):
            first, *before = ask(net, *ASKED)
            for refused, number in REFUSED:
                self.assertEqual(ask(net, refused, *ASKED), [first, [number], *before])
                self.assertEqual(ask(net, *ASKED, refused, *ASKED), [first, *before, [number], *before])

    def test_behind_a_marking_without_a_way(self):
        for net, marking in ((ROUND, [0, 1]), (JOINED, [0]), (APART, []), (NOTHING, [0, 1, 2, 3])):
            first, *before = ask(net, *ASKED)
            self.assertEqual(ask(net, way(marking), *ASKED), [first, [-2], *before])
            self.assertEqual(ask(net, *ASKED, way(marking), *ASKED), [first, *before, [-2], *before])

    def test_ahead_of_any_begin(self):
        before = ask(*ASKED)
        self.assertEqual(
            before, [[0], [0], [-2], [-2], [-2], [-2], [1], [-3], [-3], [1, 0], [-2], [-3], [-3], [-3]]
        )
        for refused, number in REFUSED:
            self.assertEqual(ask(refused, *ASKED), [[number], *before])
            self.assertEqual(ask(*ASKED, refused, *ASKED), [*before, [number], *before])

    def test_many_behind_one_another(self):
        first, *before = ask(JOINED, *ASKED)
        calls = [refused for refused, number in REFUSED]
        self.assertEqual(
            ask(JOINED, *calls, *ASKED, *calls),
            [first, *[[number] for refused, number in REFUSED], *before, *[[number] for refused, number in REFUSED]],
        )


class Anew(unittest.TestCase):
    def test_each_begin_takes_the_place_of_the_net_before(self):
        for nets in ([ROUND, JOINED, APART], [NOTHING, APART, JOINED, ROUND], [JOINED, NOTHING, JOINED]):
            calls = [call for net in nets for call in (net, *ASKED)][:60]
            alone = [answer for net in nets for answer in ask(net, *ASKED)][:60]
            self.assertEqual(ask(*calls), alone)

    def test_asked_ahead_of_the_first_begin(self):
        self.assertEqual(ask(*ASKED, JOINED, *ASKED), ask(*ASKED) + ask(JOINED, *ASKED))

    def test_reach_behind_reach(self):
        self.assertEqual(
            ask(REACH, ROUND, REACH, NOTHING, REACH, REACH, ROUND, REACH),
            [[1, 0], [2, 3, 1], [2, 1, 0, 1, 1], [0, 2, 0], [1, 2, 1, 3], [1, 2, 1, 3], [2, 3, 1], [2, 1, 0, 1, 1]],
        )

    def test_way_behind_way(self):
        self.assertEqual(
            ask(ROUND, way([1]), APART, way([1]), way([4]), ROUND, way([4]), way([1]))[1:],
            [[1, 0], [4, 5, 0], [1, 0], [2, 1, 3], [2, 3, 1], [-3], [1, 0]],
        )

    def test_reach_makes_no_difference_for_way(self):
        self.assertEqual(ask(APART, way([4]), REACH, way([4]))[1::2], ask(APART, way([4]), way([4]))[1:])


def some_numbers(source, bound):
    """Mostly rising and below the bound, but not always."""
    kind = source.random()
    if kind < 0.7:
        return sorted(source.sample(range(bound), source.randint(0, min(bound, 4))))
    if kind < 0.8:
        return [source.randrange(bound + 2) for turn in range(source.randint(0, 4))]
    return sorted({source.choice([0, 1, bound - 1, bound, bound + 1, BIG]) for turn in range(2)})


def some_call(source):
    kind = source.randrange(12)
    if kind == 0:
        return begin(*source.choice([random_net, random_wild_net])(source))
    if kind == 1:
        return source.choice(REFUSED)[0]
    if kind in (2, 3, 4):
        return [EVENTS, CONDITIONS, event(source.choice([0, 1, 5, 9, 20, BIG]))][kind - 2]
    if kind in (5, 6):
        return two(source.randrange(8), source.randrange(8))
    if kind in (7, 8):
        return there(some_numbers(source, 12))
    return REACH if kind == 9 else way(some_numbers(source, source.randint(2, 9)))


class AgainstTheWords(unittest.TestCase):
    def test_lines_of_all_calls(self):
        source = random.Random(15)
        for turn in range(60):
            calls = [some_call(source) for number in range(source.randint(1, 60))]
            if source.random() < 0.8:
                calls[0] = begin(*random_net(source))
            slow = SlowLine()
            self.assertIsNone(first_difference(calls, ask(*calls), [slow.answer(call) for call in calls]), calls)


if __name__ == "__main__":
    unittest.main()
