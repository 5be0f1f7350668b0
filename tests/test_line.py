"""The line as a whole: how it begins, what it keeps, how it is handed in and given back."""

import contextlib
import io
import sys
import unittest

from tests.calls import ABOUT, AREA, GREATEST, HEAP, KINDS, LEAST, LONGEST, MOST, ONE, PLACE, PUT, SHOWS, SPARE
from tests.calls import THREES, WITHOUT, ask, heap
from tests.watched import WatchedList
from threesticks.heap import answers

# Forty calls, all that need no heap but least and without, refused ones among them.
FORTY = [
    SHOWS, KINDS, GREATEST, ONE, 1, ONE, 2, ONE, 3, ONE, 4, ONE, 0,
    ABOUT, 0, SHOWS, ABOUT, 7, SHOWS, ONE, 1, ONE, 2, ONE, 3, KINDS, GREATEST,
    PLACE, 3, 4, 5, PLACE, 5, 4, 3, PLACE, 0, 4, 3, AREA, 3, 4, 5, AREA, 1, 2, 3, AREA, 1, 2, 101,
    LONGEST, 5, LONGEST, 0, LONGEST, 101, SHOWS,
    ABOUT, 4, KINDS, GREATEST, ONE, 1, SHOWS, ABOUT, 201, ABOUT, 3, KINDS, GREATEST, ONE, 1,
    PLACE, 1, 1, 1, AREA, 1, 1, 1, SHOWS,
]

FORTY_ANSWERED = [
    2, 12, 0, 6, 1, 1, 1, 2, 1, 0, 3, 4, 4, 4, 3, 2, 5, 5, 3, 3, 4, 5, 3, 4, 4, 4, 1, -3, 1, -3,
    1, -1, 2, 12, 0, 1, 2, 2, 7, 0, 3, 1, 3, 3, 3, 2, 2, 3, 1, -3, 6, 0, 2, 0, 1, 0, 1, 3, 2, 2, 3,
    2, 2, 3, 1, -2, 1, -1, 2, 0, 576, 1, -2, 1, -1,
    4, 9, 6, 1, 2, 1, -1, 1, -1, 2, 7, 0,
    1, 0, 6, 0, 0, 0, 0, 0, 0, 1, -6, 1, -3, 2, 4, 0, 1, -1, 1, 1, 6, 1, 0, 0, 1, 0, 0, 3, 1, 1, 1, 3, 1, 1, 1,
    2, 1, 1, 2, 0, 3, 2, 3, 0,
]


class Beginning(unittest.TestCase):
    def test_perimeter_is_12_and_the_heap_is_empty(self):
        self.assertEqual(answers([SHOWS]), [2, 12, 0])

    def test_each_call_on_the_perimeter_begins_with_12(self):
        self.assertEqual(answers([ONE, 2]), [3, 3, 4, 5])
        self.assertEqual(answers([KINDS]), [6, 1, 1, 1, 2, 1, 0])
        self.assertEqual(answers([GREATEST]), [3, 4, 4, 4])


class Shows(unittest.TestCase):
    def test_empty_heap_at_another_perimeter(self):
        self.assertEqual(ask((ABOUT, 200), (SHOWS,), (SHOWS,)), [[833], [200, 0], [200, 0]])

    def test_sticks_by_their_places(self):
        told = ask(heap([5, 3, 1000, 3]), (SHOWS,), (THREES,), (MOST,), (SPARE,), (SHOWS,))
        self.assertEqual(told[1], [12, 4, 5, 3, 1000, 3])
        self.assertEqual(told[5], [12, 4, 5, 3, 1000, 3])

    def test_about_leaves_the_heap(self):
        told = ask(heap([5, 3, 4]), (ABOUT, 7), (SHOWS,), (ABOUT, 201), (SHOWS,), (THREES,))
        self.assertEqual(told, [[3], [2], [7, 3, 5, 3, 4], [-1], [7, 3, 5, 3, 4], [1, 0, 0, 1]])

    def test_heap_and_put_leave_the_perimeter(self):
        told = ask(heap([5]), (SHOWS,), (PUT, 4), (SHOWS,), (ABOUT, 7), heap([9]), (SHOWS,), (PUT, 8), (SHOWS,))
        self.assertEqual(told[:4], [[1], [12, 1, 5], [2], [12, 2, 5, 4]])
        self.assertEqual(told[4:], [[2], [1], [7, 1, 9], [2], [7, 2, 9, 8]])

    def test_refused_heap_and_put_leave_the_perimeter(self):
        told = ask((ABOUT, 7), heap([5, 0]), (SHOWS,), (PUT, 1001), (SHOWS,), (LEAST,), (GREATEST,))
        self.assertEqual(told, [[2], [-1], [7, 0], [-1], [7, 0], [1, 3, 3], [2, 2, 3]])


class HandedIn(unittest.TestCase):
    def test_forty_calls(self):
        self.assertEqual(answers(list(FORTY)), FORTY_ANSWERED)

    def test_there_are_forty(self):
        counts, at = 0, 0
        while at < len(FORTY_ANSWERED):
            at += 1 + FORTY_ANSWERED[at]
            counts += 1
        self.assertEqual((counts, at), (40, len(FORTY_ANSWERED)))

    def test_forty_of_the_largest(self):
        self.assertEqual(answers([ABOUT, 200] + [KINDS] * 39)[:2], [1, 833])
        self.assertEqual(answers([PLACE, 100, 100, 100] * 40), [2, 1875, 1875] * 40)

    def test_list_is_the_same_afterwards(self):
        handed_in = list(FORTY)
        answers(handed_in)
        self.assertEqual(handed_in, FORTY)

    def test_list_is_not_changed_for_a_while(self):
        self.assertEqual(answers(WatchedList(FORTY)), FORTY_ANSWERED)

    def test_second_time_answers_the_same(self):
        handed_in = list(FORTY)
        first = answers(handed_in)
        first.append(0)
        self.assertEqual(answers(handed_in), FORTY_ANSWERED)

    def test_nothing_is_kept_from_another_line(self):
        answers([ABOUT, 200])
        self.assertEqual(answers([SHOWS, ONE, 2]), [2, 12, 0, 3, 3, 4, 5])
        answers([HEAP, 2, 5, 4, PUT, 3])
        self.assertEqual(answers([SHOWS, PUT, 3, SHOWS]), [2, 12, 0, 1, 1, 3, 12, 1, 3])
        answers([WITHOUT, 1000000])
        self.assertEqual(answers([WITHOUT, 2]), [4, 3, 1, 1, 2])

    def test_lengths_that_look_like_calls(self):
        # A heap of 9, 9, 1, then shows, then a heap of none: the counts alone tell where a call ends.
        self.assertEqual(answers([9, 3, 9, 9, 1, 1, 9, 0, 1]), [1, 3, 5, 12, 3, 9, 9, 1, 1, 0, 2, 12, 0])

    def test_the_longest_list(self):
        # 40 heaps of 40 lengths: 1680 numbers, all refused.
        self.assertEqual(answers(([HEAP, 40] + [7] * 40) * 40), [1, -1] * 40)


class GivenBack(unittest.TestCase):
    def test_a_list_of_whole_numbers(self):
        told = answers(list(FORTY))
        self.assertIs(type(told), list)
        self.assertEqual({type(number) for number in told}, {int})

    def test_prints_reads_and_imports_nothing(self):
        modules = set(sys.modules)
        out, err = io.StringIO(), io.StringIO()
        reading = sys.stdin
        sys.stdin = None
        try:
            with contextlib.redirect_stdout(out), contextlib.redirect_stderr(err):
                answers(list(FORTY))
                answers([LEAST, HEAP, 3, 5, 4, 3, PUT, 4, THREES, MOST, SPARE, WITHOUT, 1000000, PUT, 0])
        finally:
            sys.stdin = reading
        self.assertEqual((out.getvalue(), err.getvalue()), ("", ""))
        self.assertEqual(set(sys.modules), modules)


if __name__ == "__main__":
    unittest.main()
