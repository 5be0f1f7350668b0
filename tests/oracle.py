"""What the tests compare with: triangles found by going through all threes of sides.

Nothing here draws from the program, so that a fault of the program isn't repeated.
"""

# A triangle of perimeter 300, the greatest that place can be asked of, has no side above 149.
GREATEST_SIDE = 149


def all_triangles():
    found = []
    for a in range(1, GREATEST_SIDE + 1):
        for b in range(a, GREATEST_SIDE + 1):
            for c in range(b, GREATEST_SIDE + 1):
                if c >= a + b:
                    break
                found.append((a, b, c))
    return found


TRIANGLES = all_triangles()


def grouped(key):
    groups = {}
    for triangle in TRIANGLES:
        groups.setdefault(key(triangle), []).append(triangle)
    return groups


BY_PERIMETER = grouped(sum)
BY_LONGEST = grouped(max)


def of_perimeter(p):
    return BY_PERIMETER.get(p, [])


def kinds_by_sides(triangles):
    different = [len(set(triangle)) for triangle in triangles]
    return [different.count(1), different.count(2), different.count(3)]


def kinds_by_angle(triangles):
    # By the sign of the cosine of the angle between a and b.
    signs = []
    for a, b, c in triangles:
        cosine = a ** 2 + b ** 2 - c ** 2
        signs.append((cosine > 0) - (cosine < 0))
    return [signs.count(1), signs.count(0), signs.count(-1)]


def sixteen_squares(a, b, c):
    # Heron's product multiplied out.
    return 2 * (a * a * b * b + b * b * c * c + c * c * a * a) - (a ** 4 + b ** 4 + c ** 4)


def greatest(triangles):
    return sorted(triangles, key=lambda t: (-sixteen_squares(*t), t))[0]
