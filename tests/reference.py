"""The words of the document once more, written another way, to hold the program against.

Here a face is laid by its four corners, and lines are cut by the signs of areas.
"""

from functools import cache
from itertools import permutations, product


def corners(lengths, face):
    ends = [(0, length) for length in lengths]
    ends[face // 2] = (ends[face // 2][face % 2],)
    return list(product(*ends))


def is_on(lengths, point, face):
    within = all(0 <= x <= length for x, length in zip(point, lengths))
    return within and point[face // 2] == (0, lengths[face // 2])[face % 2]


def faces_of(lengths, point):
    return [face for face in range(6) if is_on(lengths, point, face)]


def is_row(faces):
    if not faces or len(set(faces)) < len(faces) or not set(faces) <= set(range(6)):
        return False
    return all(a // 2 != b // 2 for a, b in zip(faces, faces[1:]))


ROWS = sorted(list(row) for n in range(1, 7) for row in permutations(range(6), n) if is_row(row))


def are_neighbours(a, b):
    return sum(x != y for x, y in zip(a, b)) == 1


def distance(a, b):
    return sum(abs(x - y) for x, y in zip(a, b))


def part(whole, gone, length):
    """How far one comes in the plane if it's the whole for the length."""
    far, rest = divmod(whole * gone, length)
    if rest:
        raise ValueError("corners are at whole places")
    return far


def lay_first(lengths, face):
    axes = [axis for axis in range(3) if axis != face // 2]
    return {corner: tuple(corner[axis] for axis in axes) for corner in corners(lengths, face)}


def lay_next(lengths, laid, face):
    """Each corner that is new lies straight ahead, seen from the old face's far corner over the edge's end."""
    new = corners(lengths, face)
    shared = [corner for corner in new if corner in laid]
    result = {corner: laid[corner] for corner in shared}
    for end in shared:
        behind = next(c for c in laid if c not in shared and are_neighbours(c, end))
        ahead = next(c for c in new if c not in shared and are_neighbours(c, end))
        result[ahead] = tuple(e + part(e - b, distance(end, ahead), distance(behind, end))
                              for e, b in zip(laid[end], laid[behind]))
    return result, [laid[corner] for corner in shared]


def spot(laid, point):
    start = next(iter(laid))
    x, y = laid[start]
    for other in laid:
        if are_neighbours(start, other):
            gone = sum(abs(p - s) for p, s, o in zip(point, start, other) if s != o)
            x += part(laid[other][0] - laid[start][0], gone, distance(start, other))
            y += part(laid[other][1] - laid[start][1], gone, distance(start, other))
    return x, y


def straight(spider, fly):
    return sum((x - y) ** 2 for x, y in zip(spider, fly))


def area(a, b, c):
    return (b[0] - a[0]) * (c[1] - a[1]) - (b[1] - a[1]) * (c[0] - a[0])


def lies_on(a, b, c):
    if area(a, b, c) != 0:
        return False
    return min(a[0], b[0]) <= c[0] <= max(a[0], b[0]) and min(a[1], b[1]) <= c[1] <= max(a[1], b[1])


def lines_meet(a, b, c, d):
    if area(a, b, c) * area(a, b, d) < 0 and area(c, d, a) * area(c, d, b) < 0:
        return True
    return lies_on(a, b, c) or lies_on(a, b, d) or lies_on(c, d, a) or lies_on(c, d, b)


def over(lengths, spider, fly, row):
    if not is_row(row):
        return -1
    if not is_on(lengths, spider, row[0]) or not is_on(lengths, fly, row[-1]):
        return -4
    laid = lay_first(lengths, row[0])
    begin = spot(laid, spider)
    edges = []
    for face in row[1:]:
        laid, edge = lay_next(lengths, laid, face)
        edges.append(edge)
    finish = spot(laid, fly)
    if not all(lines_meet(begin, finish, a, b) for a, b in edges):
        return -6
    return straight(begin, finish)


def overs(lengths, spider, fly):
    """The square for each row over which there's a straight way, as (square, row)."""
    firsts, lasts = faces_of(lengths, spider), faces_of(lengths, fly)
    rows = [row for row in ROWS if row[0] in firsts and row[-1] in lasts]
    found = [(over(lengths, spider, fly, row), row) for row in rows]
    return [(square, row) for square, row in found if square >= 0]


def way_and_many(lengths, spider, fly):
    """What way and many answer, as told behind how many numbers they have."""
    found = overs(lengths, spider, fly)
    square, length, row = min((square, len(row), row) for square, row in found)
    many = [len(found), 1, sum(other == square for other, _ in found)]
    return [2 + length, square, length] + row + [3] + many


def points_on(lengths):
    points = product(*[range(length + 1) for length in lengths])
    return [point for point in points if faces_of(lengths, point)]


@cache
def laid_from(lengths, face):
    """Each row that begins with the face: how its first face lies, how its last one, and its edges."""
    rows = []
    for row in ROWS:
        if row[0] == face:
            first = laid = lay_first(lengths, row[0])
            edges = []
            for following in row[1:]:
                laid, edge = lay_next(lengths, laid, following)
                edges.append(edge)
            rows.append((row, first, laid, edges))
    return rows


def squares_from(lengths, spider):
    """The square of the shortest way to each point on the box."""
    squares = {}
    rows = [laid for face in faces_of(lengths, spider) for laid in laid_from(lengths, face)]
    for point in points_on(lengths):
        lasts = faces_of(lengths, point)
        for row, first, laid, edges in rows:
            if row[-1] in lasts:
                begin, finish = spot(first, spider), spot(laid, point)
                square = straight(begin, finish)
                if square < squares.get(point, square + 1) and all(lines_meet(begin, finish, a, b) for a, b in edges):
                    squares[point] = square
    return squares


def farthest(squares):
    """What farthest answers, if these are the squares to all points."""
    greatest = max(squares.values())
    having = sorted(point for point, square in squares.items() if square == greatest)
    return [greatest, 3, *having[0], 1, len(having)]


class Line:
    """A line's box, and what each call about it answers."""

    def __init__(self):
        self.put((1, 1, 1), (0, 0, 0), (1, 1, 1))

    def put(self, lengths, spider, fly):
        self.lengths, self.spider, self.fly = tuple(lengths), tuple(spider), tuple(fly)

    def answer(self, call):
        handed = call[1:]
        if call[0] in (0, 1, 2):
            return self.answer_placing(call[0], handed)
        if call[0] in (7, 8):
            return self.answer_searching(call[0], handed)
        if call[0] == 4:
            return [over(self.lengths, self.spider, self.fly, handed[1:])]
        if call[0] in (3, 5):
            told = way_and_many(self.lengths, self.spider, self.fly)
            return told[1:1 + told[0]] if call[0] == 3 else told[-3:]
        if call[0] == 6:
            return [straight(self.spider, self.fly)]
        if call[0] == 9:
            here, there = faces_of(self.lengths, self.spider), faces_of(self.lengths, self.fly)
            return [len(here), len(here), *here, len(there), *there]
        return [0, 3, *self.lengths, 3, *self.spider, 3, *self.fly]

    def answer_placing(self, number, handed):
        if number == 0:
            if not all(1 <= length <= 40 for length in handed):
                return [-1]
            self.put(handed, (0, 0, 0), handed)
            return [0]
        faces = faces_of(self.lengths, handed)
        if not faces:
            return [-1]
        if number == 1:
            self.put(self.lengths, handed, self.fly)
        else:
            self.put(self.lengths, self.spider, handed)
        return [len(faces)]

    def answer_searching(self, number, handed):
        if any(length > 4 for length in self.lengths):
            return [-9]
        squares = squares_from(self.lengths, self.spider)
        if number == 7:
            return farthest(squares)
        return [sum(square <= handed[0] for square in squares.values())]


def line_answers(calls):
    line = Line()
    return [line.answer(call) for call in calls]
