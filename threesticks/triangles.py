"""Triangles whose sides are whole numbers: finding them, counting their kinds, measuring them.

A triangle is a tuple (a, b, c). Lists of triangles stand by a, then b, then c.
"""


def is_triangle(a, b, c):
    return 0 < a and a <= b and b <= c and c < a + b


def of_perimeter(p):
    """All triangles of perimeter p, in their order."""
    found = []
    # a is at most a third of p, b at most half of what a leaves: else a later side would be less.
    for a in range(1, p // 3 + 1):
        for b in range(a, (p - a) // 2 + 1):
            c = p - a - b
            if is_triangle(a, b, c):
                found.append((a, b, c))
    return found


def of_longest(c):
    """All triangles whose longest side is c, in their order."""
    found = []
    for a in range(1, c + 1):
        for b in range(a, c + 1):
            if is_triangle(a, b, c):
                found.append((a, b, c))
    return found


def count_by_sides(triangles):
    """How many are like, paired, unlike."""
    like = 0
    paired = 0
    unlike = 0
    for a, b, c in triangles:
        # The sides are in order, so b can't differ where a and c are the same.
        if a == c:
            like += 1
        elif a == b or b == c:
            paired += 1
        else:
            unlike += 1
    return [like, paired, unlike]


def count_by_angle(triangles):
    """How many are sharp, right, blunt."""
    sharp = 0
    right = 0
    blunt = 0
    for a, b, c in triangles:
        over = a * a + b * b - c * c
        if over > 0:
            sharp += 1
        elif over == 0:
            right += 1
        else:
            blunt += 1
    return [sharp, right, blunt]


def sixteen_squares(a, b, c):
    """Sixteen squares of the area: a whole number, where the area itself may be none."""
    p = a + b + c
    return p * (p - 2 * a) * (p - 2 * b) * (p - 2 * c)


def greatest_area(triangles):
    """The sides of the first triangle that has the greatest area, [] if there is no triangle."""
    best = []
    best_squares = 0
    for a, b, c in triangles:
        squares = sixteen_squares(a, b, c)
        # One that is just as great doesn't take the place of an earlier one.
        if squares > best_squares:
            best = [a, b, c]
            best_squares = squares
    return best
