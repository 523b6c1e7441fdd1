"""The words of the document once more, written another way, to hold the program against.

Here a face is laid by its four corners, and lines are cut by the signs of areas.
"""

from fractions import Fraction
from itertools import permutations, product


def corners(lengths, face):
    ends = [(0, length) for length in lengths]
    ends[face // 2] = (ends[face // 2][face % 2],)
    return list(product(*ends))


def is_on(lengths, point, face):
    within = all(0 <= x <= length for x, length in zip(point, lengths))
    return within and point[face // 2] == (0, lengths[face // 2])[face % 2]


def faces_of(lengths, point):
    return [face for face in range(6) if is_on(lengths, point, face)]


def is_row(faces):
    if not faces or len(set(faces)) < len(faces) or not set(faces) <= set(range(6)):
        return False
    return all(a // 2 != b // 2 for a, b in zip(faces, faces[1:]))


ROWS = sorted(list(row) for n in range(1, 7) for row in permutations(range(6), n) if is_row(row))


def are_neighbours(a, b):
    return sum(x != y for x, y in zip(a, b)) == 1


def distance(a, b):
    return sum(abs(x - y) for x, y in zip(a, b))


def lay_first(lengths, face):
    axes = [axis for axis in range(3) if axis != face // 2]
    return {corner: tuple(corner[axis] for axis in axes) for corner in corners(lengths, face)}


def lay_next(lengths, laid, face):
    """Each corner that is new lies straight ahead, seen from the old face's far corner over the edge's end."""
    new = corners(lengths, face)
    shared = [corner for corner in new if corner in laid]
    result = {corner: laid[corner] for corner in shared}
    for end in shared:
        behind = next(c for c in laid if c not in shared and are_neighbours(c, end))
        ahead = next(c for c in new if c not in shared and are_neighbours(c, end))
        stretch = Fraction(distance(end, ahead), distance(behind, end))
        result[ahead] = tuple(e + (e - b) * stretch for e, b in zip(laid[end], laid[behind]))
    return result, [laid[corner] for corner in shared]


def spot(laid, point):
    start = next(iter(laid))
    x, y = laid[start]
    for other in laid:
        if are_neighbours(start, other):
            part = Fraction(distance([p for p, s, o in zip(point, start, other) if s != o],
                                     [s for s, o in zip(start, other) if s != o]), distance(start, other))
            x += (laid[other][0] - laid[start][0]) * part
            y += (laid[other][1] - laid[start][1]) * part
    return x, y


def area(a, b, c):
    return (b[0] - a[0]) * (c[1] - a[1]) - (b[1] - a[1]) * (c[0] - a[0])


def lies_on(a, b, c):
    if area(a, b, c) != 0:
        return False
    return min(a[0], b[0]) <= c[0] <= max(a[0], b[0]) and min(a[1], b[1]) <= c[1] <= max(a[1], b[1])


def lines_meet(a, b, c, d):
    if area(a, b, c) * area(a, b, d) < 0 and area(c, d, a) * area(c, d, b) < 0:
        return True
    return lies_on(a, b, c) or lies_on(a, b, d) or lies_on(c, d, a) or lies_on(c, d, b)


def over(lengths, spider, fly, row):
    if not is_row(row):
        return -1
    if not is_on(lengths, spider, row[0]) or not is_on(lengths, fly, row[-1]):
        return -4
    laid = lay_first(lengths, row[0])
    begin = spot(laid, spider)
    edges = []
    for face in row[1:]:
        laid, edge = lay_next(lengths, laid, face)
        edges.append(edge)
    finish = spot(laid, fly)
    if not all(lines_meet(begin, finish, a, b) for a, b in edges):
        return -6
    square = (begin[0] - finish[0]) ** 2 + (begin[1] - finish[1]) ** 2
    return int(square)


def overs(lengths, spider, fly):
    """The square for each row over which there's a straight way, as (square, row)."""
    firsts, lasts = faces_of(lengths, spider), faces_of(lengths, fly)
    rows = [row for row in ROWS if row[0] in firsts and row[-1] in lasts]
    found = [(over(lengths, spider, fly, row), row) for row in rows]
    return [(square, row) for square, row in found if square >= 0]


def way_and_many(lengths, spider, fly):
    """What way and many answer, as told behind how many numbers they have."""
    found = overs(lengths, spider, fly)
    square, length, row = min((square, len(row), row) for square, row in found)
    many = [len(found), 1, sum(other == square for other, _ in found)]
    return [2 + length, square, length] + row + [3] + many


def points_on(lengths):
    points = product(*[range(length + 1) for length in lengths])
    return [point for point in points if faces_of(lengths, point)]
