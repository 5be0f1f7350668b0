"""A whole line answered in another way than the program's: from the lists of tests/oracle.py."""

from tests import oracle
from tests.calls import ABOUT, AREA, GREATEST, HEAP, KINDS, LEAST, LONGEST, MOST, ONE, PLACE, PUT, SHOWS, SPARE
from tests.calls import THREES, WITHOUT


def of_sides(call, sides):
    if not all(1 <= side <= 100 for side in sides):
        return [-1]
    among = oracle.of_perimeter(sum(sides))
    if sides not in among:
        return [-2]
    if call == AREA:
        return [0, oracle.sixteen_squares(*sides)]
    return [among.index(sides) + 1, len(among)]


class Reference:
    def __init__(self):
        self.p = 12
        self.heap = ()

    def answer(self, number, *given):
        triangles = oracle.of_perimeter(self.p)
        threes = oracle.threes(self.heap)
        if number == ABOUT:
            if given[0] not in range(1, 201):
                return [-1]
            self.p = given[0]
            return [len(oracle.of_perimeter(self.p))]
        if number == SHOWS:
            return [self.p, len(self.heap), *self.heap]
        if number == ONE:
            return list(dict(enumerate(triangles, 1)).get(given[0], [-3]))
        if number in (PLACE, AREA):
            return of_sides(number, given)
        if number == KINDS:
            return oracle.kinds_by_sides(triangles) + oracle.kinds_by_angle(triangles)
        if number == LONGEST:
            if given[0] not in range(1, 101):
                return [-1]
            with_c = oracle.BY_LONGEST[given[0]]
            return [len(with_c)] + oracle.kinds_by_angle(with_c)
        if number == GREATEST:
            return list(oracle.greatest(triangles)) if triangles else [-6]
        if number == LEAST:
            return list(oracle.least(triangles)) if triangles else [-6]
        if number == HEAP:
            return self.become(given[1:])
        if number == PUT:
            return self.put(given[0])
        if number == THREES:
            return [len(threes)] + oracle.kinds_by_sides(threes)
        if number == MOST:
            return list(oracle.most(threes)) if threes else [-6]
        if number == SPARE:
            return [oracle.spare(self.heap)]
        assert number == WITHOUT
        return oracle.without(given[0]) if given[0] in range(1, 1000001) else [-1]

    def become(self, lengths):
        if len(lengths) > 16 or not set(lengths) <= set(range(1, 1001)):
            return [-1]
        self.heap = lengths
        return [len(lengths)]

    def put(self, length):
        if length not in range(1, 1001):
            return [-1]
        if len(self.heap) == 16:
            return [-5]
        self.heap = self.heap + (length,)
        return [len(self.heap)]


def expected(calls):
    """The answers of these calls, a list for each."""
    reference = Reference()
    return [reference.answer(*call) for call in calls]
