"""The faces of a box, rows of them, and straight ways over rows laid into the plane."""

AXES = 3
FACES = 6


class Scale:
    """One of the two coordinates in the plane that the points of a laid face have."""

    def __init__(self, axis, start, sign):
        self.axis = axis
        self.start = start
        self.sign = sign

    def place(self, coordinate):
        return self.start + self.sign * coordinate


class Edge:
    """An edge in the plane: its coordinate numbered across is where, the other goes from low to high."""

    def __init__(self, across, where, low, high):
        self.across = across
        self.where = where
        self.low = low
        self.high = high


def axis_of(face):
    return face // 2


def side_of(face):
    """The direction in which one leaves the box through the face, along its axis."""
    return 2 * (face % 2) - 1


def height_of(lengths, face):
    """The coordinate that all points of the face have along its axis."""
    return lengths[axis_of(face)] * (face % 2)


def faces_at(lengths, point):
    """The faces that the point is on, rising; none if it's no point on the box."""
    for axis in range(AXES):
        if point[axis] < 0 or point[axis] > lengths[axis]:
            return []
    return [face for face in range(FACES) if point[axis_of(face)] == height_of(lengths, face)]


def can_follow(row, face):
    return face not in row and axis_of(face) != axis_of(row[-1])


def is_row(faces):
    if len(faces) == 0 or max(faces) >= FACES:
        return False
    for k in range(1, len(faces)):
        if not can_follow(faces[:k], faces[k]):
            return False
    return True


def rows_beginning(row):
    """The row and all rows that go on from it, in the order of rows."""
    rows = [row]
    for face in range(FACES):
        if can_follow(row, face):
            rows.extend(rows_beginning(row + [face]))
    return rows


def rows_joining(first_faces, last_faces):
    """The rows from one of the first faces to one of the last, in the order of rows if the first ones rise."""
    rows = []
    for face in first_faces:
        for row in rows_beginning([face]):
            if row[-1] in last_faces:
                rows.append(row)
    return rows


def first_scales(face):
    return [Scale(axis, 0, 1) for axis in range(AXES) if axis != axis_of(face)]


def coordinate_across(scales, face):
    """Which coordinate of the plane leads from a laid face to a face beside it."""
    if scales[0].axis == axis_of(face):
        return 0
    return 1


def edge_towards(lengths, scales, face):
    """The edge that a laid face has in common with a face beside it, as it lies in the plane."""
    across = coordinate_across(scales, face)
    along = scales[1 - across]
    ends = [along.place(0), along.place(lengths[along.axis])]
    return Edge(across, scales[across].place(height_of(lengths, face)), min(ends), max(ends))


def scales_beyond(lengths, scales, face, following):
    """The scales of the following face, laid on the other side of the edge that it has with the laid face."""
    across = coordinate_across(scales, following)
    where = scales[across].place(height_of(lengths, following))
    # Away from the edge one goes on as one came, but now inwards from the face that is left.
    onwards = scales[across].sign * side_of(following)
    sign = -onwards * side_of(face)
    beyond = list(scales)
    beyond[across] = Scale(axis_of(face), where - sign * height_of(lengths, face), sign)
    return beyond


def spot_of(scales, point):
    """Where a point of a laid face lies in the plane."""
    return [scale.place(point[scale.axis]) for scale in scales]


def goes_through(begin, finish, edge):
    """Whether the straight line between two spots meets the edge; the ends of both belong to them."""
    along = 1 - edge.across
    run = finish[edge.across] - begin[edge.across]
    before = edge.where - begin[edge.across]
    if run == 0:
        low = min(begin[along], finish[along])
        high = max(begin[along], finish[along])
        return before == 0 and low <= edge.high and edge.low <= high
    if run < 0:
        run = -run
        before = -before
    if before < 0 or before > run:
        return False
    # All is told run times as large, so that it stays whole.
    met = begin[along] * run + (finish[along] - begin[along]) * before
    return edge.low * run <= met and met <= edge.high * run


def square_between(begin, finish):
    return (finish[0] - begin[0]) ** 2 + (finish[1] - begin[1]) ** 2


def straight_square(lengths, row, start, end):
    """The square of the straight way over a row that joins the points, None if there's none."""
    scales = first_scales(row[0])
    begin = spot_of(scales, start)
    edges = []
    for k in range(1, len(row)):
        edges.append(edge_towards(lengths, scales, row[k]))
        scales = scales_beyond(lengths, scales, row[k - 1], row[k])
    finish = spot_of(scales, end)
    for edge in edges:
        if not goes_through(begin, finish, edge):
            return None
    return square_between(begin, finish)
