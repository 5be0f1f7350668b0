"""The line as a whole: how it begins, what it keeps, how it is handed in and given back."""

import contextlib
import io
import sys
import unittest

from tests.calls import ABOUT, AREA, GREATEST, KINDS, LONGEST, ONE, PLACE, SHOWS, ask
from threesticks.heap import Line, answers

# Forty calls, all eight of them, refused ones among them.
FORTY = [
    SHOWS, KINDS, GREATEST, ONE, 1, ONE, 2, ONE, 3, ONE, 4, ONE, 0,
    ABOUT, 0, SHOWS, ABOUT, 7, SHOWS, ONE, 1, ONE, 2, ONE, 3, KINDS, GREATEST,
    PLACE, 3, 4, 5, PLACE, 5, 4, 3, PLACE, 0, 4, 3, AREA, 3, 4, 5, AREA, 1, 2, 3, AREA, 1, 2, 101,
    LONGEST, 5, LONGEST, 0, LONGEST, 101, SHOWS,
    ABOUT, 4, KINDS, GREATEST, ONE, 1, SHOWS, ABOUT, 201, ABOUT, 3, KINDS, GREATEST, ONE, 1,
    PLACE, 1, 1, 1, AREA, 1, 1, 1, SHOWS,
]

FORTY_ANSWERED = [
    2, 12, 0, 6, 1, 1, 1, 2, 1, 0, 3, 4, 4, 4, 3, 2, 5, 5, 3, 3, 4, 5, 3, 4, 4, 4, 1, -3, 1, -3,
    1, -1, 2, 12, 0, 1, 2, 2, 7, 0, 3, 1, 3, 3, 3, 2, 2, 3, 1, -3, 6, 0, 2, 0, 1, 0, 1, 3, 2, 2, 3,
    2, 2, 3, 1, -2, 1, -1, 2, 0, 576, 1, -2, 1, -1,
    4, 9, 6, 1, 2, 1, -1, 1, -1, 2, 7, 0,
    1, 0, 6, 0, 0, 0, 0, 0, 0, 1, -6, 1, -3, 2, 4, 0, 1, -1, 1, 1, 6, 1, 0, 0, 1, 0, 0, 3, 1, 1, 1, 3, 1, 1, 1,
    2, 1, 1, 2, 0, 3, 2, 3, 0,
]


class WatchedList(list):
    """A list that tells when something tries to change it, be it for a while."""

    def refuse(self, *given, **named):
        raise AssertionError("the list that is handed in was changed")

    append = extend = insert = pop = remove = clear = sort = reverse = refuse
    __setitem__ = __delitem__ = __iadd__ = __imul__ = refuse


class Beginning(unittest.TestCase):
    def test_perimeter_is_12_and_the_heap_is_empty(self):
        self.assertEqual(answers([SHOWS]), [2, 12, 0])

    def test_each_call_on_the_perimeter_begins_with_12(self):
        self.assertEqual(answers([ONE, 2]), [3, 3, 4, 5])
        self.assertEqual(answers([KINDS]), [6, 1, 1, 1, 2, 1, 0])
        self.assertEqual(answers([GREATEST]), [3, 4, 4, 4])


class Shows(unittest.TestCase):
    def test_empty_heap_at_another_perimeter(self):
        self.assertEqual(ask((ABOUT, 200), (SHOWS,), (SHOWS,)), [[833], [200, 0], [200, 0]])

    def test_sticks_by_their_places(self):
        line = Line()
        line.sticks = [5, 3, 1000, 3]
        self.assertEqual(line.shows(), [12, 4, 5, 3, 1000, 3])
        self.assertEqual(line.sticks, [5, 3, 1000, 3])

    def test_about_leaves_the_heap(self):
        line = Line()
        line.sticks = [5, 3, 4]
        line.about(7)
        self.assertEqual(line.shows(), [7, 3, 5, 3, 4])
        line.about(201)
        self.assertEqual(line.shows(), [7, 3, 5, 3, 4])


class HandedIn(unittest.TestCase):
    def test_forty_calls(self):
        self.assertEqual(answers(list(FORTY)), FORTY_ANSWERED)

    def test_there_are_forty(self):
        counts, at = 0, 0
        while at < len(FORTY_ANSWERED):
            at += 1 + FORTY_ANSWERED[at]
            counts += 1
        self.assertEqual((counts, at), (40, len(FORTY_ANSWERED)))

    def test_forty_of_the_largest(self):
        self.assertEqual(answers([ABOUT, 200] + [KINDS] * 39)[:2], [1, 833])
        self.assertEqual(answers([PLACE, 100, 100, 100] * 40), [2, 1875, 1875] * 40)

    def test_list_is_the_same_afterwards(self):
        handed_in = list(FORTY)
        answers(handed_in)
        self.assertEqual(handed_in, FORTY)

    def test_list_is_not_changed_for_a_while(self):
        self.assertEqual(answers(WatchedList(FORTY)), FORTY_ANSWERED)

    def test_second_time_answers_the_same(self):
        handed_in = list(FORTY)
        first = answers(handed_in)
        first.append(0)
        self.assertEqual(answers(handed_in), FORTY_ANSWERED)

    def test_nothing_is_kept_from_another_line(self):
        answers([ABOUT, 200])
        self.assertEqual(answers([SHOWS, ONE, 2]), [2, 12, 0, 3, 3, 4, 5])


class GivenBack(unittest.TestCase):
    def test_a_list_of_whole_numbers(self):
        told = answers(list(FORTY))
        self.assertIs(type(told), list)
        self.assertEqual({type(number) for number in told}, {int})

    def test_prints_reads_and_imports_nothing(self):
        modules = set(sys.modules)
        out, err = io.StringIO(), io.StringIO()
        reading = sys.stdin
        sys.stdin = None
        try:
            with contextlib.redirect_stdout(out), contextlib.redirect_stderr(err):
                answers(list(FORTY))
        finally:
            sys.stdin = reading
        self.assertEqual((out.getvalue(), err.getvalue()), ("", ""))
        self.assertEqual(set(sys.modules), modules)


if __name__ == "__main__":
    unittest.main()
