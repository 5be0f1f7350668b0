"""heap and put: what the heap becomes, and what is refused."""

import unittest

from tests.calls import ABOUT, GREATEST_NUMBER, HEAP, PUT, SHOWS, ask, ask_one, heap

NO_LENGTHS = (0, 1001, 1002, GREATEST_NUMBER)
# Not in order, and with the same length at two places.
SIXTEEN = [7, 1000, 3, 3, 12, 1, 999, 500, 8, 2, 64, 31, 6, 90, 5, 4]


class Heap(unittest.TestCase):
    def taken(self, lengths):
        told = ask(heap(lengths), (SHOWS,))
        self.assertEqual(told, [[len(lengths)], [12, len(lengths)] + list(lengths)])

    def refused(self, lengths):
        self.assertEqual(ask_one(*heap(lengths)), [-1], lengths)
        # The heap before it, an empty one too, and its perimeter stay.
        self.assertEqual(ask(heap(lengths), (SHOWS,)), [[-1], [12, 0]])
        told = ask((ABOUT, 9), heap([5, 2, 9]), heap(lengths), (SHOWS,), (PUT, 1), (SHOWS,))
        self.assertEqual(told[2:], [[-1], [9, 3, 5, 2, 9], [4], [9, 4, 5, 2, 9, 1]])

    def test_number_of_sticks(self):
        for count in range(17):
            self.taken(SIXTEEN[:count])

    def test_no_sticks_at_all(self):
        self.assertEqual(ask((HEAP, 0), (SHOWS,)), [[0], [12, 0]])

    def test_no_sticks_after_some(self):
        self.assertEqual(ask(heap([3, 4, 5]), heap([]), (SHOWS,)), [[3], [0], [12, 0]])

    def test_ends_of_the_bounds(self):
        self.taken([1])
        self.taken([1000])
        self.taken([1000, 1] * 8)

    def test_more_than_16_sticks(self):
        for count in (17, 18, 39, 40):
            self.refused([7] * count)
        self.refused(SIXTEEN + [1])

    def test_forty_numbers_that_are_no_lengths(self):
        for wrong in NO_LENGTHS:
            self.refused([wrong] * 40)

    def test_a_length_out_of_bounds(self):
        for wrong in NO_LENGTHS:
            self.refused([wrong])
            for at in range(16):
                lengths = list(SIXTEEN)
                lengths[at] = wrong
                self.refused(lengths)

    def test_seventeenth_is_out_of_bounds(self):
        for wrong in NO_LENGTHS:
            self.refused(SIXTEEN + [wrong])

    def test_refused_leaves_a_full_heap(self):
        told = ask(heap(SIXTEEN), heap([0]), (SHOWS,), heap([7] * 17), (SHOWS,))
        self.assertEqual(told, [[16], [-1], [12, 16] + SIXTEEN, [-1], [12, 16] + SIXTEEN])

    def test_takes_the_place_of_the_one_before(self):
        told = ask(heap(SIXTEEN), heap([4, 2]), (SHOWS,), heap([9, 1, 9]), (SHOWS,))
        self.assertEqual(told, [[16], [2], [12, 2, 4, 2], [3], [12, 3, 9, 1, 9]])


class Put(unittest.TestCase):
    def test_behind_the_others(self):
        told = ask((PUT, 5), (SHOWS,), (PUT, 9), (SHOWS,), (PUT, 1), (SHOWS,), (PUT, 9), (SHOWS,))
        self.assertEqual(told[:4], [[1], [12, 1, 5], [2], [12, 2, 5, 9]])
        self.assertEqual(told[4:], [[3], [12, 3, 5, 9, 1], [4], [12, 4, 5, 9, 1, 9]])

    def test_behind_a_heap(self):
        told = ask(heap([8, 2]), (PUT, 5), (SHOWS,), heap([]), (PUT, 6), (SHOWS,))
        self.assertEqual(told, [[2], [3], [12, 3, 8, 2, 5], [0], [1], [12, 1, 6]])

    def test_ends_of_the_bounds(self):
        self.assertEqual(ask((PUT, 1), (PUT, 1000), (SHOWS,)), [[1], [2], [12, 2, 1, 1000]])

    def test_out_of_bounds(self):
        for wrong in NO_LENGTHS:
            self.assertEqual(ask((PUT, wrong), (SHOWS,)), [[-1], [12, 0]])
            told = ask(heap([5, 2]), (PUT, wrong), (SHOWS,), (PUT, 3), (SHOWS,))
            self.assertEqual(told, [[2], [-1], [12, 2, 5, 2], [3], [12, 3, 5, 2, 3]])

    def test_at_15_and_at_16_sticks(self):
        for length in (1, 7, 1000):
            told = ask(heap(SIXTEEN[:15]), (PUT, length), (SHOWS,), (PUT, length), (SHOWS,))
            full = [12, 16] + SIXTEEN[:15] + [length]
            self.assertEqual(told, [[15], [16], full, [-5], full])

    def test_one_by_one_up_to_16(self):
        told = ask(*[(PUT, length) for length in SIXTEEN], (PUT, 1), (SHOWS,))
        self.assertEqual(told[:16], [[count] for count in range(1, 17)])
        self.assertEqual(told[16:], [[-5], [12, 16] + SIXTEEN])

    def test_out_of_bounds_is_told_ahead_of_a_full_heap(self):
        for wrong in NO_LENGTHS:
            told = ask(heap(SIXTEEN), (PUT, wrong), (SHOWS,), (PUT, 1), (SHOWS,))
            self.assertEqual(told[1:], [[-1], [12, 16] + SIXTEEN, [-5], [12, 16] + SIXTEEN])

    def test_full_heap_can_be_emptied(self):
        told = ask(heap(SIXTEEN), (PUT, 1), heap([]), (PUT, 1), (SHOWS,))
        self.assertEqual(told, [[16], [-5], [0], [1], [12, 1, 1]])


if __name__ == "__main__":
    unittest.main()
