"""The calls of a line, which are about one perimeter and one heap of sticks.

Each call gives back the list of the numbers that it answers; a refusal is its number alone.
"""

from threesticks.triangles import count_by_angle, count_by_sides, greatest_area
from threesticks.triangles import is_triangle, of_longest, of_perimeter, sixteen_squares

FIRST_PERIMETER = 12
GREATEST_PERIMETER = 200
GREATEST_SIDE = 100

OUT_OF_BOUNDS = -1
NOT_A_TRIANGLE = -2
NOT_THERE = -3
NO_TRIANGLE = -6

ABOUT = 0
SHOWS = 1
ONE = 2
PLACE = 3
KINDS = 4
LONGEST = 5
AREA = 6

# How many numbers stand behind the number of a call, by that number.
NUMBERS_BEHIND = (1, 0, 1, 3, 0, 1, 3, 0)


class Line:
    """What the calls of one line are about: a perimeter and a heap."""

    def __init__(self):
        self.perimeter = FIRST_PERIMETER
        self.sticks = []

    def about(self, p):
        if p < 1 or p > GREATEST_PERIMETER:
            return [OUT_OF_BOUNDS]
        self.perimeter = p
        return [len(of_perimeter(p))]

    def shows(self):
        return [self.perimeter, len(self.sticks)] + self.sticks

    def one(self, i):
        triangles = of_perimeter(self.perimeter)
        if i < 1 or i > len(triangles):
            return [NOT_THERE]
        return list(triangles[i - 1])

    def kinds(self):
        triangles = of_perimeter(self.perimeter)
        return count_by_sides(triangles) + count_by_angle(triangles)

    def greatest(self):
        best = greatest_area(of_perimeter(self.perimeter))
        if len(best) == 0:
            return [NO_TRIANGLE]
        return best


def is_side(length):
    return 1 <= length and length <= GREATEST_SIDE


def refused_sides(a, b, c):
    """The refusal of these sides as a list of one number, [] if they are a triangle."""
    # The bounds are told first, so they are asked first.
    if not (is_side(a) and is_side(b) and is_side(c)):
        return [OUT_OF_BOUNDS]
    if not is_triangle(a, b, c):
        return [NOT_A_TRIANGLE]
    return []


def place(a, b, c):
    refused = refused_sides(a, b, c)
    if len(refused) > 0:
        return refused
    triangles = of_perimeter(a + b + c)
    return [triangles.index((a, b, c)) + 1, len(triangles)]


def longest(c):
    if not is_side(c):
        return [OUT_OF_BOUNDS]
    triangles = of_longest(c)
    return [len(triangles)] + count_by_angle(triangles)


def area(a, b, c):
    refused = refused_sides(a, b, c)
    if len(refused) > 0:
        return refused
    return [0, sixteen_squares(a, b, c)]


def answer(line, call, given):
    """What one call answers; given are the numbers behind the call's own."""
    if call == ABOUT:
        return line.about(given[0])
    if call == SHOWS:
        return line.shows()
    if call == ONE:
        return line.one(given[0])
    if call == PLACE:
        return place(given[0], given[1], given[2])
    if call == KINDS:
        return line.kinds()
    if call == LONGEST:
        return longest(given[0])
    if call == AREA:
        return area(given[0], given[1], given[2])
    # 7 is the one that is left.
    return line.greatest()


def answers(calls):
    """For each call, in order: how many numbers are answered, then these."""
    line = Line()
    told = []
    start = 0
    while start < len(calls):
        call = calls[start]
        end = start + 1 + NUMBERS_BEHIND[call]
        answered = answer(line, call, calls[start + 1:end])
        told.append(len(answered))
        told.extend(answered)
        start = end
    return told
