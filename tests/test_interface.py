"""answers: the form of what is handed in and given back, and that nothing is changed or kept."""

import contextlib
import io
import unittest

from netsunfolded.events import answers
from tests.helper import BIG, CONDITIONS, EVENTS, FORTY_EVENTS, FORTY_ONE_EVENTS, MANY_ROWS, REACH, TOO_MANY_MARKINGS
from tests.helper import begin, begin_with, event, split, there, two, way

ROUND = begin(2, [([0], [1]), ([1], [0])], [0])


class Untouchable(list):
    """A list that fails as soon as it is changed, even if for a while."""

    def refuse(self, *given):
        raise AssertionError("the list that was handed in is changed")

    append = extend = insert = pop = remove = clear = sort = reverse = refuse
    __setitem__ = __delitem__ = __iadd__ = __imul__ = refuse


def line_of_many_kinds():
    """51 calls: all eight, taken and refused."""
    calls = []
    for net in (ROUND, begin(*FORTY_EVENTS), begin(*FORTY_ONE_EVENTS), begin(*TOO_MANY_MARKINGS)):
        calls += net + EVENTS + CONDITIONS + event(0) + event(39) + event(BIG)
        calls += two(0, 1) + there([0, 1]) + there([1, 0]) + REACH + way([1]) + way([BIG]) + two(BIG, 0)
    return calls + begin_with(3, [BIG], [0]) + begin(BIG, [], []) + begin(2, [([], [])], [])


class Form(unittest.TestCase):
    def test_one_call(self):
        self.assertEqual(answers(ROUND), [3, 2, 3, 1])
        self.assertEqual(answers([2]), [1, 0])
        self.assertEqual(answers([3]), [1, 0])
        self.assertEqual(answers([4, 0]), [1, -2])
        self.assertEqual(answers(begin(0, [], [])), [1, -1])
        self.assertEqual(answers([5, 0, 0]), [1, -2])
        self.assertEqual(answers([6, 0]), [1, 1])
        self.assertEqual(answers([6, 1, 0]), [1, -3])
        self.assertEqual(answers([7]), [2, 1, 0])
        self.assertEqual(answers([8, 0]), [1, 0])
        self.assertEqual(answers([8, 1, 0]), [1, -2])

    def test_several_calls(self):
        self.assertEqual(
            answers(ROUND + EVENTS + CONDITIONS + event(1) + event(2)),
            [3, 2, 3, 1, 9, 2, 0, 0, 1, 0, 1, 1, 1, 1, 7, 3, 0, -1, 1, 0, 0, 1, 4, 2, 0, 1, 0, 1, -2],
        )

    def test_all_eight_calls(self):
        self.assertEqual(
            answers(ROUND + [2, 3, 4, 1, 5, 0, 1, 6, 2, 0, 2, 7, 8, 1, 1]),
            [3, 2, 3, 1, 9, 2, 0, 0, 1, 0, 1, 1, 1, 1, 7, 3, 0, -1, 1, 0, 0, 1, 4, 2, 0, 1, 0]
            + [1, 1, 1, 0, 5, 2, 1, 0, 1, 1, 2, 1, 0],
        )

    def test_all_eight_calls_the_other_way_round(self):
        self.assertEqual(
            answers([8, 0, 7, 6, 0, 5, 0, 1, 4, 1, 3, 2] + ROUND),
            [1, 0, 2, 1, 0, 1, 1, 1, -2, 1, -2, 1, 0, 1, 0, 3, 2, 3, 1],
        )

    def test_rows_end_where_their_count_tells(self):
        # What stands behind the rows would read otherwise if one number more or less were taken.
        calls = ROUND + there([]) + there([0]) + way([0, 1]) + REACH + there([0, 1, 2]) + way([]) + two(1, 0)
        self.assertEqual(split(answers(calls))[1:], [[1], [1], [-2], [2, 1, 0, 1, 1], [0], [-2], [2]])

    def test_sixty_calls(self):
        numbers = answers(ROUND + EVENTS * 30 + event(0) * 29)
        self.assertEqual(
            split(numbers), [[2, 3, 1]] + [[2, 0, 0, 1, 0, 1, 1, 1, 1]] * 30 + [[1, 0, 1]] * 29
        )

    def test_sixty_begins(self):
        nets = [ROUND, begin(*FORTY_EVENTS), begin(*TOO_MANY_MARKINGS)]
        calls = [number for net in nets * 20 for number in net]
        self.assertEqual(split(answers(calls)), [[2, 3, 1], [40, 41, 0], [-4]] * 20)

    def test_long_lists(self):
        # Nearly 15000 numbers.
        calls = begin_with(9, [1, 0, 0] * 75, list(range(9))) * 60
        self.assertEqual(split(answers(calls)), [[-1]] * 60)
        calls = begin_with(9, [0] * 300, list(range(20))) * 40
        self.assertEqual(split(answers(calls)), [[-3]] * 40)
        # As many numbers as there may be.
        calls = there(list(range(400))) * 37 + way([0] * 20) * 5 + REACH * 16
        self.assertEqual(len(calls), 15000)
        self.assertEqual(split(answers(calls)), [[-3]] * 42 + [[1, 0]] * 16)

    def test_kinds(self):
        numbers = answers(line_of_many_kinds())
        self.assertIs(type(numbers), list)
        self.assertEqual({type(number) for number in numbers}, {int})

    def test_a_refusal_stands_alone(self):
        for row in split(answers(line_of_many_kinds())):
            if row[0] < 0:
                self.assertEqual(len(row), 1)


class NothingIsKept(unittest.TestCase):
    def test_what_is_handed_in_is_not_changed(self):
        calls = line_of_many_kinds()
        before = list(calls)
        answers(calls)
        self.assertEqual(calls, before)

    def test_not_for_a_while_either(self):
        self.assertEqual(answers(Untouchable(line_of_many_kinds())), answers(line_of_many_kinds()))

    def test_asked_twice(self):
        calls = line_of_many_kinds()
        first = answers(calls)
        for between in (
            ROUND, [2], begin(*FORTY_ONE_EVENTS), begin(5, [([4], [0])], [1, 4]), begin(*MANY_ROWS) + REACH + way([]),
            REACH, way([0]), there([]), two(0, 0),
        ):
            answers(between)
            self.assertEqual(answers(calls), first)

    def test_each_time_as_if_for_the_first(self):
        answers(ROUND)
        self.assertEqual(answers(EVENTS + CONDITIONS + event(0)), [1, 0, 1, 0, 1, -2])
        answers(ROUND + REACH + way([1]))
        self.assertEqual(answers(two(0, 0) + there([0]) + REACH + way([1])), [1, -2, 1, -3, 2, 1, 0, 1, -3])

    def test_what_is_given_back_is_not_kept(self):
        calls = ROUND + EVENTS + REACH + way([1])
        first = answers(calls)
        before = list(first)
        first.clear()
        self.assertEqual(answers(calls), before)

    def test_it_prints_nothing(self):
        printed = io.StringIO()
        with contextlib.redirect_stdout(printed), contextlib.redirect_stderr(printed):
            answers(line_of_many_kinds())
        self.assertEqual(printed.getvalue(), "")


if __name__ == "__main__":
    unittest.main()
