"""about, one, kinds, greatest and least: the calls on the triangles of the line's perimeter."""

import unittest

from tests import oracle
from tests.calls import ABOUT, GREATEST, GREATEST_NUMBER, KINDS, LEAST, ONE, SHOWS, ask, ask_many, ask_one, heap
from threesticks.triangles import greatest_area, least_area

PERIMETERS = range(1, 201)
WITHOUT_TRIANGLE = (1, 2, 4)


def rounded_by_48(p):
    """How many triangles there are by the document's formula, rounded to the nearest."""
    base = p if p % 2 == 0 else p + 3
    return (base * base + 24) // 48


def of_each_perimeter(*call):
    """What the call answers at each perimeter, by the perimeter."""
    return {p: ask((ABOUT, p), call)[1] for p in PERIMETERS}


class About(unittest.TestCase):
    def test_by_hand(self):
        self.assertEqual(ask_one(ABOUT, 3), [1])
        self.assertEqual(ask_one(ABOUT, 7), [2])
        self.assertEqual(ask_one(ABOUT, 12), [3])

    def test_each_perimeter_as_counted(self):
        told = ask_many([(ABOUT, p) for p in PERIMETERS])
        self.assertEqual(told, [[len(oracle.of_perimeter(p))] for p in PERIMETERS])

    def test_each_perimeter_by_the_formula(self):
        told = ask_many([(ABOUT, p) for p in PERIMETERS])
        self.assertEqual(told, [[rounded_by_48(p)] for p in PERIMETERS])

    def test_ends_of_the_bounds(self):
        self.assertEqual(ask_one(ABOUT, 1), [0])
        self.assertEqual(ask_one(ABOUT, 200), [833])

    def test_out_of_bounds(self):
        for p in (0, 201, 202, GREATEST_NUMBER):
            self.assertEqual(ask_one(ABOUT, p), [-1], p)

    def test_perimeter_without_triangle_is_taken(self):
        for p in WITHOUT_TRIANGLE:
            self.assertEqual(ask((ABOUT, p), (SHOWS,)), [[0], [p, 0]])

    def test_refused_leaves_the_perimeter(self):
        for p in (0, 201, GREATEST_NUMBER):
            self.assertEqual(ask((ABOUT, p), (SHOWS,)), [[-1], [12, 0]])
            told = ask((ABOUT, 7), (ABOUT, p), (SHOWS,), (ONE, 2), (GREATEST,))
            self.assertEqual(told, [[2], [-1], [7, 0], [2, 2, 3], [2, 2, 3]])

    def test_each_about_counts_anew(self):
        told = ask((ABOUT, 7), (ABOUT, 200), (ABOUT, 12), (SHOWS,))
        self.assertEqual(told, [[2], [833], [3], [12, 0]])


class One(unittest.TestCase):
    def test_by_hand(self):
        told = ask((ONE, 1), (ONE, 2), (ONE, 3))
        self.assertEqual(told, [[2, 5, 5], [3, 4, 5], [4, 4, 4]])

    def test_all_of_some_perimeters(self):
        for p in (3, 5, 6, 7, 8, 9, 11, 23, 24, 59, 60, 61):
            triangles = oracle.of_perimeter(p)
            told = [ask((ABOUT, p), (ONE, i))[1] for i in range(1, len(triangles) + 1)]
            self.assertEqual(told, [list(triangle) for triangle in triangles], p)

    def test_first_and_last_of_each_perimeter(self):
        for p in PERIMETERS:
            triangles = oracle.of_perimeter(p)
            if triangles:
                told = ask((ABOUT, p), (ONE, 1), (ONE, len(triangles)))
                self.assertEqual(told[1:], [list(triangles[0]), list(triangles[-1])], p)

    def test_zero_and_one_past_the_last(self):
        for p in PERIMETERS:
            past = len(oracle.of_perimeter(p)) + 1
            self.assertEqual(ask((ABOUT, p), (ONE, 0), (ONE, past))[1:], [[-3], [-3]], p)

    def test_far_past_the_last(self):
        self.assertEqual(ask_one(ONE, GREATEST_NUMBER), [-3])

    def test_perimeter_without_triangle(self):
        for p in WITHOUT_TRIANGLE:
            self.assertEqual(ask((ABOUT, p), (ONE, 0), (ONE, 1), (ONE, 2))[1:], [[-3], [-3], [-3]])

    def test_refused_leaves_the_perimeter(self):
        self.assertEqual(ask((ABOUT, 9), (ONE, 0), (ONE, 4), (SHOWS,))[1:], [[-3], [-3], [9, 0]])


class Kinds(unittest.TestCase):
    def test_by_hand(self):
        self.assertEqual(ask_one(KINDS), [1, 1, 1, 2, 1, 0])
        # 1 4 4 and 3 3 3 are sharp, 2 3 4 is blunt.
        self.assertEqual(ask((ABOUT, 9), (KINDS,))[1], [1, 1, 1, 2, 0, 1])

    def test_perimeter_without_triangle(self):
        for p in WITHOUT_TRIANGLE:
            self.assertEqual(ask((ABOUT, p), (KINDS,))[1], [0, 0, 0, 0, 0, 0])

    def test_each_perimeter_as_counted(self):
        told = of_each_perimeter(KINDS)
        for p in PERIMETERS:
            triangles = oracle.of_perimeter(p)
            self.assertEqual(told[p], oracle.kinds_by_sides(triangles) + oracle.kinds_by_angle(triangles), p)

    def test_both_ways_of_sorting_take_in_all(self):
        told = of_each_perimeter(KINDS)
        for p in PERIMETERS:
            self.assertEqual(sum(told[p][:3]), rounded_by_48(p))
            self.assertEqual(sum(told[p][3:]), rounded_by_48(p))


class Greatest(unittest.TestCase):
    def test_by_hand(self):
        self.assertEqual(ask_one(GREATEST), [4, 4, 4])
        self.assertEqual(ask((ABOUT, 7), (GREATEST,))[1], [2, 2, 3])
        self.assertEqual(ask((ABOUT, 8), (GREATEST,))[1], [2, 3, 3])
        self.assertEqual(ask((ABOUT, 200), (GREATEST,))[1], [66, 67, 67])

    def test_no_triangle(self):
        for p in WITHOUT_TRIANGLE:
            self.assertEqual(ask((ABOUT, p), (GREATEST,), (SHOWS,))[1:], [[-6], [p, 0]])

    def test_each_perimeter_as_measured(self):
        told = of_each_perimeter(GREATEST)
        for p in PERIMETERS:
            if p not in WITHOUT_TRIANGLE:
                self.assertEqual(told[p], list(oracle.greatest(oracle.of_perimeter(p))), p)

    def test_of_as_great_ones_the_first(self):
        # No perimeter up to 200 has two that are the greatest, so the choice is asked by itself:
        # these two have the perimeter 70 and the area 210 both.
        first, second = (17, 25, 28), (20, 21, 29)
        self.assertEqual(oracle.sixteen_squares(*first), oracle.sixteen_squares(*second))
        self.assertEqual(greatest_area([first, second]), [17, 25, 28])
        self.assertEqual(greatest_area([(10, 26, 34), first, second, (3, 33, 34)]), [17, 25, 28])

    def test_perimeters_that_have_as_great_ones(self):
        # At 70 two smaller ones share their area; the greatest is still the one nearest to like.
        self.assertEqual(ask((ABOUT, 70), (GREATEST,))[1], [23, 23, 24])


class Least(unittest.TestCase):
    def test_by_hand(self):
        # Of perimeter 12, sixteen squares are 384 at 2 5 5, 576 at 3 4 5, 768 at 4 4 4.
        self.assertEqual(ask_one(LEAST), [2, 5, 5])
        self.assertEqual(ask((ABOUT, 7), (LEAST,))[1], [1, 3, 3])
        self.assertEqual(ask((ABOUT, 10), (LEAST,))[1], [2, 4, 4])
        self.assertEqual(ask((ABOUT, 199), (LEAST,))[1], [1, 99, 99])
        self.assertEqual(ask((ABOUT, 200), (LEAST,))[1], [2, 99, 99])

    def test_no_triangle(self):
        for p in WITHOUT_TRIANGLE:
            told = ask(heap([3, 4, 5]), (ABOUT, p), (LEAST,), (SHOWS,))
            self.assertEqual(told[2:], [[-6], [p, 3, 3, 4, 5]])

    def test_one_triangle(self):
        only = {3: [1, 1, 1], 5: [1, 2, 2], 6: [2, 2, 2], 8: [2, 3, 3]}
        for p, sides in only.items():
            self.assertEqual(ask((ABOUT, p), (LEAST,), (GREATEST,)), [[1], sides, sides])

    def test_each_perimeter_as_measured(self):
        told = of_each_perimeter(LEAST)
        for p in PERIMETERS:
            if p in WITHOUT_TRIANGLE:
                self.assertEqual(told[p], [-6], p)
            else:
                self.assertEqual(told[p], list(oracle.least(oracle.of_perimeter(p))), p)

    def test_of_as_small_ones_the_first(self):
        # No perimeter up to 200 has two that are the least either.
        first, second = (17, 25, 28), (20, 21, 29)
        self.assertEqual(least_area([first, second]), [17, 25, 28])
        self.assertEqual(least_area([first, second, (23, 23, 24)]), [17, 25, 28])

    def test_refused_about_leaves_the_least(self):
        self.assertEqual(ask((ABOUT, 7), (ABOUT, 0), (LEAST,))[2], [1, 3, 3])


if __name__ == "__main__":
    unittest.main()
