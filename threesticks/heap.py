"""The calls of a line, which are about one perimeter and one heap of sticks.

Each call gives back the list of the numbers that it answers; a refusal is its number alone.
"""

from threesticks.triangles import count_by_angle, count_by_sides, greatest_area, greatest_perimeter
from threesticks.triangles import is_triangle, least_area, lengths_without, most_left
from threesticks.triangles import of_longest, of_perimeter, of_sticks, sixteen_squares

FIRST_PERIMETER = 12
GREATEST_PERIMETER = 200
GREATEST_SIDE = 100
GREATEST_LENGTH = 1000
MOST_STICKS = 16
GREATEST_WITHOUT = 1000000

OUT_OF_BOUNDS = -1
NOT_A_TRIANGLE = -2
NOT_THERE = -3
HEAP_IS_FULL = -5
NO_TRIANGLE = -6

ABOUT = 0
SHOWS = 1
ONE = 2
PLACE = 3
KINDS = 4
LONGEST = 5
AREA = 6
GREATEST = 7
LEAST = 8
HEAP = 9
PUT = 10
THREES = 11
MOST = 12
SPARE = 13

# How many numbers stand behind the number of a call, by that number; of heap, 9, ahead of its lengths.
NUMBERS_BEHIND = (1, 0, 1, 3, 0, 1, 3, 0, 0, 1, 1, 0, 0, 0, 1)


class Line:
    """What the calls of one line are about: a perimeter and a heap."""

    def __init__(self):
        self.perimeter = FIRST_PERIMETER
        self.sticks = []

    def about(self, p):
        if p < 1 or p > GREATEST_PERIMETER:
            return [OUT_OF_BOUNDS]
        self.perimeter = p
        return [len(of_perimeter(p))]

    def shows(self):
        return [self.perimeter, len(self.sticks)] + self.sticks

    def one(self, i):
        triangles = of_perimeter(self.perimeter)
        if i < 1 or i > len(triangles):
            return [NOT_THERE]
        return list(triangles[i - 1])

    def kinds(self):
        triangles = of_perimeter(self.perimeter)
        return count_by_sides(triangles) + count_by_angle(triangles)

    def greatest(self):
        return sides_or_refusal(greatest_area(of_perimeter(self.perimeter)))

    def least(self):
        return sides_or_refusal(least_area(of_perimeter(self.perimeter)))

    def heap(self, lengths):
        if len(lengths) > MOST_STICKS or not all([is_length(length) for length in lengths]):
            return [OUT_OF_BOUNDS]
        # A copy, so that put changes nothing that was handed in.
        self.sticks = list(lengths)
        return [len(self.sticks)]

    def put(self, length):
        # The bounds are told first, so they are asked first.
        if not is_length(length):
            return [OUT_OF_BOUNDS]
        if len(self.sticks) == MOST_STICKS:
            return [HEAP_IS_FULL]
        self.sticks.append(length)
        return [len(self.sticks)]

    def threes(self):
        triangles = of_sticks(self.sticks)
        return [len(triangles)] + count_by_sides(triangles)

    def most(self):
        return sides_or_refusal(greatest_perimeter(of_sticks(self.sticks)))

    def spare(self):
        return [len(self.sticks) - most_left(self.sticks)]


def sides_or_refusal(sides):
    """The sides of the triangle that was chosen; [] means that there was none to choose from."""
    if len(sides) == 0:
        return [NO_TRIANGLE]
    return sides


def is_side(length):
    return 1 <= length and length <= GREATEST_SIDE


def is_length(length):
    return 1 <= length and length <= GREATEST_LENGTH


def refused_sides(a, b, c):
    """The refusal of these sides as a list of one number, [] if they are a triangle."""
    # The bounds are told first, so they are asked first.
    if not (is_side(a) and is_side(b) and is_side(c)):
        return [OUT_OF_BOUNDS]
    if not is_triangle(a, b, c):
        return [NOT_A_TRIANGLE]
    return []


def place(a, b, c):
    refused = refused_sides(a, b, c)
    if len(refused) > 0:
        return refused
    triangles = of_perimeter(a + b + c)
    return [triangles.index((a, b, c)) + 1, len(triangles)]


def longest(c):
    if not is_side(c):
        return [OUT_OF_BOUNDS]
    triangles = of_longest(c)
    return [len(triangles)] + count_by_angle(triangles)


def area(a, b, c):
    refused = refused_sides(a, b, c)
    if len(refused) > 0:
        return refused
    return [0, sixteen_squares(a, b, c)]


def without(n):
    if n < 1 or n > GREATEST_WITHOUT:
        return [OUT_OF_BOUNDS]
    lengths = lengths_without(n)
    return [len(lengths)] + lengths


def answer_of_triangles(line, call, given):
    """What a call up to least answers."""
    if call == ABOUT:
        return line.about(given[0])
    if call == SHOWS:
        return line.shows()
    if call == ONE:
        return line.one(given[0])
    if call == PLACE:
        return place(given[0], given[1], given[2])
    if call == KINDS:
        return line.kinds()
    if call == LONGEST:
        return longest(given[0])
    if call == AREA:
        return area(given[0], given[1], given[2])
    if call == GREATEST:
        return line.greatest()
    # 8, least, is the one that is left.
    return line.least()


def answer_of_sticks(line, call, given):
    """What a call from heap on answers."""
    if call == HEAP:
        # The first number only tells how many lengths there are.
        return line.heap(given[1:])
    if call == PUT:
        return line.put(given[0])
    if call == THREES:
        return line.threes()
    if call == MOST:
        return line.most()
    if call == SPARE:
        return line.spare()
    # 14, without, is the one that is left.
    return without(given[0])


def answer(line, call, given):
    """What one call answers; given are the numbers behind the call's own."""
    if call <= LEAST:
        return answer_of_triangles(line, call, given)
    return answer_of_sticks(line, call, given)


def end_of_call(calls, start):
    """Where the call behind the one that begins at start begins."""
    call = calls[start]
    end = start + 1 + NUMBERS_BEHIND[call]
    if call == HEAP:
        end += calls[start + 1]
    return end


def answers(calls):
    """For each call, in order: how many numbers are answered, then these."""
    line = Line()
    told = []
    start = 0
    while start < len(calls):
        end = end_of_call(calls, start)
        answered = answer(line, calls[start], calls[start + 1:end])
        told.append(len(answered))
        told.extend(answered)
        start = end
    return told
