"""What the tests compare with: triangles found by going through all threes of sides or of places.

Nothing here draws from the program, so that a fault of the program isn't repeated.
"""

import itertools

# A triangle of perimeter 300, the greatest that place can be asked of, has no side above 149.
GREATEST_SIDE = 149


def all_triangles():
    found = []
    for a in range(1, GREATEST_SIDE + 1):
        for b in range(a, GREATEST_SIDE + 1):
            for c in range(b, GREATEST_SIDE + 1):
                if c >= a + b:
                    break
                found.append((a, b, c))
    return found


TRIANGLES = all_triangles()


def grouped(key):
    groups = {}
    for triangle in TRIANGLES:
        groups.setdefault(key(triangle), []).append(triangle)
    return groups


BY_PERIMETER = grouped(sum)
BY_LONGEST = grouped(max)


def of_perimeter(p):
    return BY_PERIMETER.get(p, [])


def kinds_by_sides(triangles):
    different = [len(set(triangle)) for triangle in triangles]
    return [different.count(1), different.count(2), different.count(3)]


def kinds_by_angle(triangles):
    # By the sign of the cosine of the angle between a and b.
    signs = []
    for a, b, c in triangles:
        cosine = a ** 2 + b ** 2 - c ** 2
        signs.append((cosine > 0) - (cosine < 0))
    return [signs.count(1), signs.count(0), signs.count(-1)]


def sixteen_squares(a, b, c):
    # Heron's product multiplied out.
    return 2 * (a * a * b * b + b * b * c * c + c * c * a * a) - (a ** 4 + b ** 4 + c ** 4)


def greatest(triangles):
    return sorted(triangles, key=lambda t: (-sixteen_squares(*t), t))[0]


def least(triangles):
    return sorted(triangles, key=lambda t: (sixteen_squares(*t), t))[0]


def makes_triangle(three):
    """Each of the three sides is less than the two others together, in whatever order they stand."""
    return all(2 * side < sum(three) for side in three)


def places_of_threes(sticks):
    """The threes of places whose sticks make a triangle."""
    threes = itertools.combinations(range(len(sticks)), 3)
    return [places for places in threes if makes_triangle([sticks[place] for place in places])]


def threes(sticks):
    """The triangles of a heap, one for each three of places."""
    return [tuple(sorted(sticks[place] for place in places)) for places in places_of_threes(sticks)]


def most(triangles):
    return sorted(triangles, key=lambda t: (-sum(t), t))[0]


def spare(sticks):
    """The fewest places of all choices of places that take a stick from each three that makes a triangle."""
    masks = [sum(1 << place for place in places) for places in places_of_threes(sticks)]
    fewest = len(sticks)
    for taken in range(1 << len(sticks)):
        if taken.bit_count() < fewest and all(taken & mask for mask in masks):
            fewest = taken.bit_count()
    return fewest


def longest_without(n, begun=()):
    """How many lengths from 1 to n there can be without a triangle, by going through all rising rows of them."""
    found = len(begun)
    for length in range(begun[-1] if begun else 1, n + 1):
        if not any(makes_triangle((a, b, length)) for a, b in itertools.combinations(begun, 2)):
            found = max(found, longest_without(n, begun + (length,)))
    return found


def without(n):
    lengths = [1, 1]
    for length in range(2, n + 1):
        if length == lengths[-1] + lengths[-2]:
            lengths.append(length)
    return [len(lengths)] + lengths
