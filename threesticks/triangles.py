"""Triangles whose sides are whole numbers: finding, counting, measuring them, and doing without.

A triangle is a tuple (a, b, c). Lists of triangles stand by a, then b, then c, so that max and min,
which take the first of several that measure the same, take the one that is asked for.
"""


def is_triangle(a, b, c):
    return 0 < a and a <= b and b <= c and c < a + b


def of_perimeter(p):
    """All triangles of perimeter p, in their order."""
    found = []
    # a is at most a third of p, b at most half of what a leaves: else a later side would be less.
    for a in range(1, p // 3 + 1):
        for b in range(a, (p - a) // 2 + 1):
            c = p - a - b
            if is_triangle(a, b, c):
                found.append((a, b, c))
    return found


def of_longest(c):
    """All triangles whose longest side is c, in their order."""
    found = []
    for a in range(1, c + 1):
        for b in range(a, c + 1):
            if is_triangle(a, b, c):
                found.append((a, b, c))
    return found


def count_by_sides(triangles):
    """How many are like, paired, unlike."""
    like = 0
    paired = 0
    unlike = 0
    for a, b, c in triangles:
        # The sides are in order, so b can't differ where a and c are the same.
        if a == c:
            like += 1
        elif a == b or b == c:
            paired += 1
        else:
            unlike += 1
    return [like, paired, unlike]


def count_by_angle(triangles):
    """How many are sharp, right, blunt."""
    sharp = 0
    right = 0
    blunt = 0
    for a, b, c in triangles:
        over = a * a + b * b - c * c
        if over > 0:
            sharp += 1
        elif over == 0:
            right += 1
        else:
            blunt += 1
    return [sharp, right, blunt]


def sixteen_squares(a, b, c):
    """Sixteen squares of the area: a whole number, where the area itself may be none."""
    p = a + b + c
    return p * (p - 2 * a) * (p - 2 * b) * (p - 2 * c)


def squares_of(triangle):
    return sixteen_squares(triangle[0], triangle[1], triangle[2])


def greatest_area(triangles):
    """The sides of the first triangle that has the greatest area, [] if there is no triangle."""
    return list(max(triangles, key=squares_of, default=()))


def least_area(triangles):
    """The sides of the first triangle that has the least area, [] if there is no triangle."""
    return list(min(triangles, key=squares_of, default=()))


def greatest_perimeter(triangles):
    """The sides of the first triangle that has the greatest perimeter, [] if there is no triangle."""
    return list(max(triangles, key=sum, default=()))


def of_sticks(sticks):
    """The triangles that three of the sticks make, one for each three of places, in their order."""
    lengths = sorted(sticks)
    found = []
    for k in range(len(lengths)):
        for j in range(k):
            for i in range(j):
                if is_triangle(lengths[i], lengths[j], lengths[k]):
                    found.append((lengths[i], lengths[j], lengths[k]))
    # The longest side was walked first, but triangles stand by the shortest first.
    return sorted(found)


def most_left(sticks):
    """How many of the sticks can be left at the most so that no three of them make a triangle."""
    lengths = sorted(sticks)
    most = min(len(lengths), 2)
    # In order of length it is enough that no three neighbours make a triangle: of any three, the first
    # is no longer than the one before the second, the third no shorter than the one behind it. So the
    # last two decide what can come next, and left[(i, j)] is how many there can be if those are i and j.
    left = {}
    for j in range(len(lengths)):
        for i in range(j):
            left[(i, j)] = 2
            for h in range(i):
                if not is_triangle(lengths[h], lengths[i], lengths[j]):
                    left[(i, j)] = max(left[(i, j)], left[(h, i)] + 1)
            most = max(most, left[(i, j)])
    return most


def lengths_without(n):
    """As many lengths from 1 to n as there can be so that no three make a triangle."""
    lengths = [1, 1]
    # A stick that is shorter than the two before it together would make a triangle with them.
    while lengths[-2] + lengths[-1] <= n:
        lengths.append(lengths[-2] + lengths[-1])
    return lengths
