"""without: how many sticks there can be and no three make a triangle."""

import unittest

from tests import oracle
from tests.calls import ABOUT, GREATEST_NUMBER, MOST, SHOWS, SPARE, THREES, WITHOUT, ask, ask_many, ask_one, heap

# Written out by hand; the next one is 1346269.
LENGTHS = [
    1, 1, 2, 3, 5, 8, 13, 21, 34, 55, 89, 144, 233, 377, 610, 987, 1597, 2584, 4181, 6765, 10946, 17711, 28657,
    46368, 75025, 121393, 196418, 317811, 514229, 832040,
]


class Without(unittest.TestCase):
    def test_least_ones(self):
        self.assertEqual(ask_one(WITHOUT, 1), [2, 1, 1])
        self.assertEqual(ask_one(WITHOUT, 2), [3, 1, 1, 2])
        self.assertEqual(ask_one(WITHOUT, 3), [4, 1, 1, 2, 3])
        self.assertEqual(ask_one(WITHOUT, 4), [4, 1, 1, 2, 3])
        self.assertEqual(ask_one(WITHOUT, 5), [5, 1, 1, 2, 3, 5])

    def test_greatest_ones(self):
        self.assertEqual(ask_one(WITHOUT, 999999), [30] + LENGTHS)
        self.assertEqual(ask_one(WITHOUT, 1000000), [30] + LENGTHS)

    def test_out_of_bounds(self):
        for n in (0, 1000001, 1000002, 1346269, GREATEST_NUMBER):
            self.assertEqual(ask_one(WITHOUT, n), [-1], n)

    def test_each_length_and_one_less(self):
        for count in range(3, len(LENGTHS) + 1):
            n = LENGTHS[count - 1]
            self.assertEqual(ask_one(WITHOUT, n), [count] + LENGTHS[:count])
            self.assertEqual(ask_one(WITHOUT, n - 1), [count - 1] + LENGTHS[:count - 1])

    def test_up_to_1000_one_by_one(self):
        told = ask_many([(WITHOUT, n) for n in range(1, 1001)])
        self.assertEqual(told, [oracle.without(n) for n in range(1, 1001)])

    def test_there_can_be_no_more(self):
        for n in range(1, 19):
            self.assertEqual(ask_one(WITHOUT, n)[0], oracle.longest_without(n), n)

    def test_no_three_of_them_make_a_triangle(self):
        self.assertEqual(oracle.threes(ask_one(WITHOUT, 1000000)[1:]), [])
        lengths = ask_one(WITHOUT, 1000)[1:]
        self.assertEqual(ask(heap(lengths), (THREES,), (MOST,), (SPARE,)), [[16], [0, 0, 0, 0], [-6], [0]])

    def test_line_is_left(self):
        told = ask((ABOUT, 9), heap([5, 4]), (WITHOUT, 3), (SHOWS,), (WITHOUT, 0), (SHOWS,))
        self.assertEqual(told[2:], [[4, 1, 1, 2, 3], [9, 2, 5, 4], [-1], [9, 2, 5, 4]])


if __name__ == "__main__":
    unittest.main()
