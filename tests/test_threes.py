"""threes, most and spare: the calls on the threes of a heap."""

import itertools
import random
import unittest

from tests import oracle
from tests.calls import MOST, PUT, SHOWS, SPARE, THREES, ask, heap
from threesticks.triangles import greatest_perimeter, of_sticks

FIBONACCI = [1, 1, 2, 3, 5, 8, 13, 21, 34, 55, 89, 144, 233, 377, 610, 987]
# In order of length the longest stick stands alone: it is in no triangle.
LONGEST_ALONE = [3, 1000, 5, 4]


def mixed_heaps():
    """Heaps of all sizes, of short lengths (many the same) up to long ones, in no order."""
    draw = random.Random(16)
    heaps = []
    for greatest in (3, 6, 12, 40, 200, 1000):
        for count in range(17):
            heaps.append([draw.randint(1, greatest) for stick in range(count)])
    # Lengths that grow, so that few threes make a triangle.
    for count in (8, 12, 16):
        heaps.append([draw.randint(1, 2 ** min(place, 9)) for place in range(1, count + 1)])
        heaps.append(draw.sample(FIBONACCI, count))
    return heaps


HEAPS = mixed_heaps()


def of_heap(call, lengths):
    return ask(heap(lengths), (call,))[1]


def small_heaps():
    """All heaps of up to five sticks of lengths from 1 to 4, in each order."""
    for count in range(6):
        for lengths in itertools.product(range(1, 5), repeat=count):
            yield list(lengths)


class Threes(unittest.TestCase):
    def test_too_few_sticks(self):
        for lengths in ([], [1], [1000], [5, 5]):
            self.assertEqual(of_heap(THREES, lengths), [0, 0, 0, 0], lengths)

    def test_before_any_heap(self):
        self.assertEqual(ask((THREES,)), [[0, 0, 0, 0]])

    def test_three_sticks(self):
        self.assertEqual(of_heap(THREES, [7, 7, 7]), [1, 1, 0, 0])
        self.assertEqual(of_heap(THREES, [7, 7, 9]), [1, 0, 1, 0])
        self.assertEqual(of_heap(THREES, [2, 7, 7]), [1, 0, 1, 0])
        self.assertEqual(of_heap(THREES, [3, 4, 5]), [1, 0, 0, 1])
        self.assertEqual(of_heap(THREES, [1000, 1000, 1000]), [1, 1, 0, 0])

    def test_in_each_order(self):
        for lengths in itertools.permutations([3, 4, 5]):
            self.assertEqual(of_heap(THREES, lengths), [1, 0, 0, 1], lengths)
        for lengths in itertools.permutations([2, 3, 5]):
            self.assertEqual(of_heap(THREES, lengths), [0, 0, 0, 0], lengths)

    def test_two_together_as_long_as_the_third(self):
        for lengths in ([1, 1, 2], [2, 3, 5], [500, 500, 1000], [1, 999, 1000]):
            self.assertEqual(of_heap(THREES, lengths), [0, 0, 0, 0], lengths)
        for lengths in ([2, 2, 3], [2, 4, 5], [500, 501, 1000], [2, 999, 1000]):
            self.assertEqual(of_heap(THREES, lengths)[0], 1, lengths)

    def test_sixteen_like_sticks(self):
        for length in (1, 7, 1000):
            self.assertEqual(of_heap(THREES, [length] * 16), [560, 560, 0, 0])

    def test_each_three_of_places_counts(self):
        # Four threes of 5 5 5 5; six times two 5 beside the 3; none with the 12.
        self.assertEqual(of_heap(THREES, [5, 3, 5, 12, 5, 5]), [10, 4, 6, 0])
        # 3 4 5 at 2 * 1 * 2 threes of places; 3 3 4, 3 3 5 twice, 3 5 5 twice, 4 5 5.
        self.assertEqual(of_heap(THREES, [5, 3, 4, 3, 5]), [10, 0, 6, 4])

    def test_none_at_all(self):
        self.assertEqual(of_heap(THREES, FIBONACCI), [0, 0, 0, 0])

    def test_after_put(self):
        told = ask(heap([5, 3]), (THREES,), (PUT, 4), (THREES,), (PUT, 4), (THREES,), (PUT, 0), (THREES,))
        self.assertEqual(told[1::2], [[0, 0, 0, 0], [1, 0, 0, 1], [4, 0, 2, 2], [4, 0, 2, 2]])

    def test_small_heaps_through_all_threes(self):
        for lengths in small_heaps():
            triangles = oracle.threes(lengths)
            self.assertEqual(of_heap(THREES, lengths), [len(triangles)] + oracle.kinds_by_sides(triangles), lengths)

    def test_mixed_heaps_through_all_threes(self):
        for lengths in HEAPS:
            triangles = oracle.threes(lengths)
            self.assertEqual(of_heap(THREES, lengths), [len(triangles)] + oracle.kinds_by_sides(triangles), lengths)


class Most(unittest.TestCase):
    def test_by_hand(self):
        self.assertEqual(of_heap(MOST, [5, 3, 4]), [3, 4, 5])
        self.assertEqual(of_heap(MOST, [2, 9, 8, 7, 1]), [7, 8, 9])
        self.assertEqual(of_heap(MOST, [1000, 1000, 1000, 1]), [1000, 1000, 1000])

    def test_no_three_make_one(self):
        for lengths in ([], [1], [5, 5], [1, 1, 2], [5, 2, 3], [1000, 1, 999], FIBONACCI, FIBONACCI[::-1]):
            told = ask(heap(lengths), (MOST,), (SHOWS,))
            self.assertEqual(told[1:], [[-6], [12, len(lengths)] + lengths], lengths)

    def test_before_any_heap(self):
        self.assertEqual(ask((MOST,), (SHOWS,)), [[-6], [12, 0]])

    def test_longest_stick_is_in_none(self):
        self.assertEqual(of_heap(MOST, LONGEST_ALONE), [3, 4, 5])
        self.assertEqual(of_heap(MOST, [9, 3, 5, 4]), [3, 4, 5])
        self.assertEqual(of_heap(MOST, [2, 500, 1000, 3, 2, 100]), [2, 2, 3])

    def test_several_have_the_greatest_perimeter(self):
        # Threes of places that are as great always have the same sides: these are told once.
        self.assertEqual(of_heap(MOST, [7] * 16), [7, 7, 7])
        self.assertEqual(of_heap(MOST, [5, 4, 5, 5, 4, 1]), [5, 5, 5])
        self.assertEqual(of_heap(MOST, [4, 9, 4, 6, 4, 100]), [4, 6, 9])

    def test_smaller_ones_of_one_perimeter(self):
        # 2 5 5 and 3 4 5 have the perimeter 12 both, but 4 5 5 has more.
        self.assertEqual(of_heap(MOST, [5, 2, 5, 3, 4]), [4, 5, 5])

    def test_of_as_great_ones_the_first(self):
        # As great ones with other sides come from no heap, so the choice is asked by itself.
        self.assertEqual(greatest_perimeter([(1, 5, 5), (2, 5, 5), (3, 4, 5), (4, 4, 4)]), [2, 5, 5])
        self.assertEqual(greatest_perimeter([]), [])

    def test_triangles_of_a_heap_stand_in_order(self):
        for lengths in HEAPS:
            self.assertEqual(of_sticks(lengths), sorted(oracle.threes(lengths)), lengths)

    def test_in_each_order(self):
        for lengths in itertools.permutations([3, 4, 5, 12]):
            self.assertEqual(of_heap(MOST, lengths), [3, 4, 5], lengths)

    def test_after_put(self):
        told = ask((MOST,), heap([5, 3]), (MOST,), (PUT, 4), (MOST,), (PUT, 8), (MOST,), (PUT, 9), (MOST,))
        self.assertEqual(told[::2], [[-6], [-6], [3, 4, 5], [4, 5, 8], [5, 8, 9]])

    def compare(self, lengths):
        triangles = oracle.threes(lengths)
        expected = list(oracle.most(triangles)) if triangles else [-6]
        self.assertEqual(of_heap(MOST, lengths), expected, lengths)

    def test_small_heaps_through_all_threes(self):
        for lengths in small_heaps():
            self.compare(lengths)

    def test_mixed_heaps_through_all_threes(self):
        for lengths in HEAPS:
            self.compare(lengths)


class Spare(unittest.TestCase):
    def test_empty_heap(self):
        self.assertEqual(ask((SPARE,), heap([]), (SPARE,)), [[0], [0], [0]])

    def test_nothing_has_to_be_taken_away(self):
        for lengths in ([1], [7, 7], [1, 1, 2], [5, 2, 3], [1000, 1, 999], FIBONACCI, FIBONACCI[::-1]):
            self.assertEqual(of_heap(SPARE, lengths), [0], lengths)

    def test_by_hand(self):
        self.assertEqual(of_heap(SPARE, [3, 4, 5]), [1])
        # Without the 4 there are 2 3 5, which make none.
        self.assertEqual(of_heap(SPARE, [2, 3, 4, 5]), [1])
        # Of 1 to 9 there can stay 1 2 3 5 8, and no six.
        self.assertEqual(of_heap(SPARE, list(range(1, 10))), [4])

    def test_like_sticks(self):
        for count in range(2, 17):
            self.assertEqual(of_heap(SPARE, [7] * count), [count - 2])

    def test_longest_is_not_always_the_one_to_take(self):
        # Of 2 2 3 one goes; the others have no triangle.
        self.assertEqual(of_heap(SPARE, [100, 2, 3, 1000, 2]), [1])

    def test_in_each_order(self):
        for lengths in itertools.permutations([2, 3, 4, 5]):
            self.assertEqual(of_heap(SPARE, lengths), [1], lengths)
        self.assertEqual(of_heap(SPARE, [9, 2, 7, 4, 5, 1, 8, 3, 6]), [4])

    def test_heap_is_left(self):
        told = ask(heap([9, 2, 7, 4, 7]), (SPARE,), (SHOWS,), (SPARE,))
        self.assertEqual(told[2], [12, 5, 9, 2, 7, 4, 7])
        self.assertEqual(told[1], told[3])

    def test_small_heaps_through_all_choices(self):
        for lengths in small_heaps():
            self.assertEqual(of_heap(SPARE, lengths), [oracle.spare(lengths)], lengths)

    def test_mixed_heaps_through_all_choices(self):
        for lengths in HEAPS:
            self.assertEqual(of_heap(SPARE, lengths), [oracle.spare(lengths)], lengths)


if __name__ == "__main__":
    unittest.main()
