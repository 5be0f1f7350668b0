"""All fifteen calls mixed, in lists of 40 calls."""

import random
import unittest

from tests.calls import ABOUT, AREA, GREATEST, GREATEST_NUMBER, HEAP, KINDS, LEAST, LONGEST, MOST, ONE, PLACE, PUT
from tests.calls import SHOWS, SPARE, THREES, WITHOUT, heap, one_list, taken_apart
from tests.reference import expected
from tests.watched import WatchedList
from threesticks.heap import answers

# By hand: all fifteen, each refusal of the last seven among them.
BY_HAND = [
    ((SHOWS,), [12, 0]),
    ((THREES,), [0, 0, 0, 0]),
    ((MOST,), [-6]),
    ((SPARE,), [0]),
    ((LEAST,), [2, 5, 5]),
    ((GREATEST,), [4, 4, 4]),
    ((HEAP, 3, 5, 3, 4), [3]),
    ((SHOWS,), [12, 3, 5, 3, 4]),
    ((THREES,), [1, 0, 0, 1]),
    ((MOST,), [3, 4, 5]),
    ((SPARE,), [1]),
    ((PUT, 4), [4]),
    ((THREES,), [4, 0, 2, 2]),
    ((MOST,), [4, 4, 5]),
    ((SPARE,), [2]),
    ((ABOUT, 7), [2]),
    ((SHOWS,), [7, 4, 5, 3, 4, 4]),
    ((LEAST,), [1, 3, 3]),
    ((ONE, 2), [2, 2, 3]),
    ((KINDS,), [0, 2, 0, 1, 0, 1]),
    ((PUT, 0), [-1]),
    ((PUT, 1001), [-1]),
    ((HEAP, 2, 1, 0), [-1]),
    ((HEAP, 17, 1, 1, 1, 1, 1, 1, 1, 1, 1, 1, 1, 1, 1, 1, 1, 1, 1), [-1]),
    ((SHOWS,), [7, 4, 5, 3, 4, 4]),
    ((HEAP, 16, 1, 1, 1, 1, 1, 1, 1, 1, 1, 1, 1, 1, 1, 1, 1, 1), [16]),
    ((PUT, 1), [-5]),
    ((PUT, 0), [-1]),
    ((THREES,), [560, 560, 0, 0]),
    ((SPARE,), [14]),
    ((HEAP, 0), [0]),
    ((SHOWS,), [7, 0]),
    ((ABOUT, 4), [0]),
    ((LEAST,), [-6]),
    ((WITHOUT, 0), [-1]),
    ((WITHOUT, 8), [6, 1, 1, 2, 3, 5, 8]),
    ((PLACE, 3, 4, 5), [2, 3]),
    ((AREA, 3, 4, 5), [0, 576]),
    ((LONGEST, 5), [9, 6, 1, 2]),
    ((SHOWS,), [4, 0]),
]

NUMBERS_BEHIND = {ABOUT: 1, ONE: 1, PLACE: 3, LONGEST: 1, AREA: 3, PUT: 1, WITHOUT: 1}
ODD_NUMBERS = (0, 1, 2, 4, 12, 15, 16, 17, 100, 101, 200, 201, 1000, 1001, 1000000, 1000001, GREATEST_NUMBER)


def drawn_number(draw):
    if draw.randrange(5) == 0:
        return draw.choice(ODD_NUMBERS)
    return draw.randint(1, draw.choice((5, 20, 100)))


def drawn_call(draw, number):
    if number == HEAP:
        # Mostly such as are taken, and some that are refused.
        count = draw.choice((0, 1, 2, 3, 5, 8, 10, 13, 15, 16, 17, 40))
        lengths = [draw.randint(1, draw.choice((5, 30, 1000))) for stick in range(count)]
        if lengths and draw.randrange(4) == 0:
            lengths[draw.randrange(count)] = drawn_number(draw)
        return heap(lengths)
    if number in (PLACE, AREA) and draw.randrange(3) > 0:
        return (number, *sorted(draw.randint(40, 100) for side in range(3)))
    return (number, *[drawn_number(draw) for place in range(NUMBERS_BEHIND.get(number, 0))])


def drawn_calls(seed):
    """Forty calls with each of the fifteen among them, the same ones whenever the seed is."""
    draw = random.Random(seed)
    often = [ABOUT, SHOWS, SHOWS, HEAP, PUT, PUT, THREES, MOST, SPARE, LEAST]
    numbers = list(range(15)) + [draw.choice(often) for more in range(25)]
    draw.shuffle(numbers)
    return [drawn_call(draw, number) for number in numbers]


class ByHand(unittest.TestCase):
    def test_forty_calls(self):
        calls = [call for call, answered in BY_HAND]
        self.assertEqual(len(calls), 40)
        self.assertEqual({call[0] for call in calls}, set(range(15)))
        told = answers(one_list(calls))
        self.assertEqual(taken_apart(told, calls), [answered for call, answered in BY_HAND])

    def test_reference_answers_the_same(self):
        self.assertEqual(expected([call for call, answered in BY_HAND]), [answered for call, answered in BY_HAND])


class Drawn(unittest.TestCase):
    def test_lists_of_forty_calls(self):
        for seed in range(60):
            calls = drawn_calls(seed)
            self.assertEqual((len(calls), {call[0] for call in calls}), (40, set(range(15))))
            handed_in = one_list(calls)
            told = answers(handed_in)
            self.assertEqual(taken_apart(told, calls), expected(calls), calls)
            # The list is the same afterwards, and a second time it is answered as the first time.
            self.assertEqual(handed_in, one_list(calls))
            self.assertEqual(answers(handed_in), told)

    def test_lists_are_not_changed_for_a_while(self):
        for seed in range(20):
            handed_in = one_list(drawn_calls(seed))
            self.assertEqual(answers(WatchedList(handed_in)), answers(list(handed_in)))

    def test_only_whole_numbers_and_only_refusals_below_0(self):
        for seed in range(20):
            calls = drawn_calls(seed)
            told = answers(one_list(calls))
            self.assertEqual({type(number) for number in told}, {int})
            for numbers in taken_apart(told, calls):
                self.assertTrue(len(numbers) == 1 or min(numbers) >= 0, numbers)


if __name__ == "__main__":
    unittest.main()
