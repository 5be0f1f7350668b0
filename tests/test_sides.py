"""place, area and longest: the calls on sides that are handed in."""

import itertools
import unittest

from tests import oracle
from tests.calls import ABOUT, AREA, GREATEST_NUMBER, LONGEST, PLACE, SHOWS, ask, ask_many, ask_one

OUT_OF_BOUNDS = (0, 101, GREATEST_NUMBER)


def granted_triangles():
    return [triangle for triangle in oracle.TRIANGLES if triangle[2] <= 100]


class Sides(unittest.TestCase):
    """What place and area refuse, both alike."""

    def refused(self, sides, refusal):
        for call in (PLACE, AREA):
            self.assertEqual(ask_one(call, *sides), [refusal], (call, sides))

    def test_a_side_out_of_bounds(self):
        for wrong in OUT_OF_BOUNDS:
            for at in range(3):
                sides = [60, 60, 60]
                sides[at] = wrong
                self.refused(sides, -1)

    def test_all_sides_out_of_bounds(self):
        for sides in itertools.product(OUT_OF_BOUNDS, repeat=3):
            self.refused(sides, -1)

    def test_a_triangle_with_a_side_above_100(self):
        for sides in ((100, 100, 101), (1, 101, 101), (101, 101, 101)):
            self.refused(sides, -1)
        self.refused((GREATEST_NUMBER, GREATEST_NUMBER, GREATEST_NUMBER), -1)

    def test_out_of_bounds_is_told_ahead_of_no_triangle(self):
        for sides in ((0, 0, 0), (0, 1, 1), (1, 0, 1), (1, 1, 0), (1, 1, 101), (101, 1, 1), (1, 101, 1)):
            self.refused(sides, -1)
        self.refused((1, 2, GREATEST_NUMBER), -1)
        self.refused((5, GREATEST_NUMBER, 4), -1)

    def test_two_together_as_much_as_the_third(self):
        for sides in ((1, 1, 2), (2, 3, 5), (50, 50, 100), (1, 99, 100)):
            self.refused(sides, -2)

    def test_two_together_less_than_the_third(self):
        for sides in ((1, 1, 3), (2, 3, 6), (1, 1, 100), (49, 50, 100)):
            self.refused(sides, -2)

    def test_sides_that_are_not_in_order(self):
        for sides in ((3, 5, 4), (4, 3, 5), (4, 5, 3), (5, 3, 4), (5, 4, 3), (2, 2, 1), (2, 1, 2), (100, 99, 100)):
            self.refused(sides, -2)

    def test_all_threes_of_small_sides(self):
        triangles = set(oracle.TRIANGLES)
        for sides in itertools.product(range(0, 8), repeat=3):
            if 0 in sides:
                self.refused(sides, -1)
            elif sides not in triangles:
                self.refused(sides, -2)
            else:
                self.assertEqual(len(ask_one(PLACE, *sides)), 2)
                self.assertEqual(len(ask_one(AREA, *sides)), 2)

    def test_perimeter_of_the_line_is_left(self):
        told = ask((ABOUT, 9), (PLACE, 3, 4, 5), (AREA, 3, 4, 5), (PLACE, 0, 4, 5), (AREA, 5, 4, 3), (SHOWS,))
        self.assertEqual(told, [[3], [2, 3], [0, 576], [-1], [-2], [9, 0]])


class Place(unittest.TestCase):
    def test_by_hand(self):
        self.assertEqual(ask_one(PLACE, 2, 5, 5), [1, 3])
        self.assertEqual(ask_one(PLACE, 3, 4, 5), [2, 3])
        self.assertEqual(ask_one(PLACE, 4, 4, 4), [3, 3])

    def test_ends_of_the_bounds(self):
        self.assertEqual(ask_one(PLACE, 1, 1, 1), [1, 1])
        # Of perimeter 300 there are 300 * 300 / 48 = 1875, and the like one is the last.
        self.assertEqual(ask_one(PLACE, 100, 100, 100), [1875, 1875])
        self.assertEqual(ask_one(PLACE, 1, 100, 100), [1, len(oracle.of_perimeter(201))])

    def test_all_of_some_perimeters(self):
        for p in (3, 5, 6, 7, 23, 24, 60, 61):
            triangles = oracle.of_perimeter(p)
            told = ask_many([(PLACE, *triangle) for triangle in triangles])
            self.assertEqual(told, [[i, len(triangles)] for i in range(1, len(triangles) + 1)], p)

    def test_some_of_all_perimeters(self):
        for a, b, c in granted_triangles()[::97]:
            triangles = oracle.of_perimeter(a + b + c)
            self.assertEqual(ask_one(PLACE, a, b, c), [triangles.index((a, b, c)) + 1, len(triangles)])


class Area(unittest.TestCase):
    def test_by_hand(self):
        # The area of 3 4 5 is 6, of 5 12 13 it is 30, of 13 14 15 it is 84.
        self.assertEqual(ask_one(AREA, 3, 4, 5), [0, 16 * 6 * 6])
        self.assertEqual(ask_one(AREA, 5, 12, 13), [0, 16 * 30 * 30])
        self.assertEqual(ask_one(AREA, 13, 14, 15), [0, 16 * 84 * 84])

    def test_ends_of_the_bounds(self):
        self.assertEqual(ask_one(AREA, 1, 1, 1), [0, 3])
        self.assertEqual(ask_one(AREA, 100, 100, 100), [0, 300000000])
        self.assertEqual(ask_one(AREA, 1, 100, 100), [0, 39999])

    def test_many_as_multiplied_out(self):
        triangles = granted_triangles()[::7]
        told = ask_many([(AREA, *triangle) for triangle in triangles])
        self.assertEqual(told, [[0, oracle.sixteen_squares(*triangle)] for triangle in triangles])


class Longest(unittest.TestCase):
    def test_by_hand(self):
        self.assertEqual(ask_one(LONGEST, 1), [1, 1, 0, 0])
        self.assertEqual(ask_one(LONGEST, 2), [2, 2, 0, 0])
        # Blunt are 2 4 5 and 3 3 5, right is 3 4 5.
        self.assertEqual(ask_one(LONGEST, 5), [9, 6, 1, 2])

    def test_each_side_as_counted(self):
        told = ask_many([(LONGEST, c) for c in range(1, 101)])
        for c in range(1, 101):
            triangles = oracle.BY_LONGEST[c]
            self.assertEqual(told[c - 1], [len(triangles)] + oracle.kinds_by_angle(triangles), c)

    def test_each_side_by_the_formula(self):
        told = ask_many([(LONGEST, c) for c in range(1, 101)])
        self.assertEqual([numbers[0] for numbers in told], [(c + 1) ** 2 // 4 for c in range(1, 101)])

    def test_ends_of_the_bounds(self):
        self.assertEqual(ask_one(LONGEST, 1)[0], 1)
        self.assertEqual(ask_one(LONGEST, 100)[0], 2550)

    def test_out_of_bounds(self):
        for c in OUT_OF_BOUNDS:
            self.assertEqual(ask_one(LONGEST, c), [-1], c)

    def test_perimeter_of_the_line_is_left(self):
        self.assertEqual(ask((ABOUT, 9), (LONGEST, 5), (LONGEST, 0), (SHOWS,))[1:], [[9, 6, 1, 2], [-1], [9, 0]])


if __name__ == "__main__":
    unittest.main()
