"""The faces of a box, rows of them, and straight ways over rows laid into the plane."""

AXES = 3
FACES = 6


class Scale:
    """One of the two coordinates in the plane that the points of a laid face have."""

    def __init__(self, axis, start, sign):
        self.axis = axis
        self.start = start
        self.sign = sign

    def place(self, coordinate):
        return self.start + self.sign * coordinate


class Edge:
    """An edge in the plane: its coordinate numbered across is where, the other goes from low to high."""

    def __init__(self, across, where, low, high):
        self.across = across
        self.where = where
        self.low = low
        self.high = high


class LaidRow:
    """A row of faces in the plane: the scales of its first face and its last, and the edges that it crosses."""

    def __init__(self, row, first, last, edges):
        self.row = row
        self.first = first
        self.last = last
        self.edges = edges


def axis_of(face):
    return face // 2


def side_of(face):
    """The direction in which one leaves the box through the face, along its axis."""
    return 2 * (face % 2) - 1


def height_of(lengths, face):
    """The coordinate that all points of the face have along its axis."""
    return lengths[axis_of(face)] * (face % 2)


def faces_at(lengths, point):
    """The faces that the point is on, rising; none if it's no point on the box."""
    for axis in range(AXES):
        if point[axis] < 0 or point[axis] > lengths[axis]:
            return []
    return [face for face in range(FACES) if point[axis_of(face)] == height_of(lengths, face)]


def points_on(lengths):
    """The points on the box with whole coordinates; the first coordinate that differs is less in the one before."""
    points = []
    for x in range(lengths[0] + 1):
        for y in range(lengths[1] + 1):
            for z in range(lengths[2] + 1):
                if len(faces_at(lengths, [x, y, z])) > 0:
                    points.append([x, y, z])
    return points


def can_follow(row, face):
    return face not in row and axis_of(face) != axis_of(row[-1])


def is_row(faces):
    if len(faces) == 0 or max(faces) >= FACES:
        return False
    for k in range(1, len(faces)):
        if not can_follow(faces[:k], faces[k]):
            return False
    return True


def first_scales(face):
    return [Scale(axis, 0, 1) for axis in range(AXES) if axis != axis_of(face)]


def coordinate_across(scales, face):
    """Which coordinate of the plane leads from a laid face to a face beside it."""
    if scales[0].axis == axis_of(face):
        return 0
    return 1


def edge_towards(lengths, scales, face):
    """The edge that a laid face has in common with a face beside it, as it lies in the plane."""
    across = coordinate_across(scales, face)
    along = scales[1 - across]
    ends = [along.place(0), along.place(lengths[along.axis])]
    return Edge(across, scales[across].place(height_of(lengths, face)), min(ends), max(ends))


def scales_beyond(lengths, scales, face, following):
    """The scales of the following face, laid on the other side of the edge that it has with the laid face."""
    across = coordinate_across(scales, following)
    where = scales[across].place(height_of(lengths, following))
    # Away from the edge one goes on as one came, but now inwards from the face that is left.
    onwards = scales[across].sign * side_of(following)
    sign = -onwards * side_of(face)
    beyond = list(scales)
    beyond[across] = Scale(axis_of(face), where - sign * height_of(lengths, face), sign)
    return beyond


def laid_alone(face):
    scales = first_scales(face)
    return LaidRow([face], scales, scales, [])


def laid_on(lengths, laid, face):
    """The laid row with one more face behind it."""
    edge = edge_towards(lengths, laid.last, face)
    scales = scales_beyond(lengths, laid.last, laid.row[-1], face)
    return LaidRow(laid.row + [face], laid.first, scales, laid.edges + [edge])


def lay(lengths, row):
    laid = laid_alone(row[0])
    for face in row[1:]:
        laid = laid_on(lengths, laid, face)
    return laid


def laid_beginning(lengths, laid):
    """The laid row and all rows that go on from it, in the order of rows."""
    found = [laid]
    for face in range(FACES):
        if can_follow(laid.row, face):
            found.extend(laid_beginning(lengths, laid_on(lengths, laid, face)))
    return found


def laid_from(lengths, faces):
    """All rows that begin with one of the faces, laid, in the order of rows if the faces rise."""
    found = []
    for face in faces:
        found.extend(laid_beginning(lengths, laid_alone(face)))
    return found


def spot_of(scales, point):
    """Where a point of a laid face lies in the plane."""
    return [scale.place(point[scale.axis]) for scale in scales]


def goes_through(begin, finish, edge):
    """Whether the straight line between two spots meets the edge; the ends of both belong to them."""
    along = 1 - edge.across
    run = finish[edge.across] - begin[edge.across]
    before = edge.where - begin[edge.across]
    if run == 0:
        low = min(begin[along], finish[along])
        high = max(begin[along], finish[along])
        return before == 0 and low <= edge.high and edge.low <= high
    if run < 0:
        run = -run
        before = -before
    if before < 0 or before > run:
        return False
    # All is told run times as large, so that it stays whole.
    met = begin[along] * run + (finish[along] - begin[along]) * before
    return edge.low * run <= met and met <= edge.high * run


def square_over(laid, start, end):
    """The square of the line between two points, as they lie on the first face and the last of a laid row."""
    begin = spot_of(laid.first, start)
    finish = spot_of(laid.last, end)
    return (finish[0] - begin[0]) ** 2 + (finish[1] - begin[1]) ** 2


def is_straight_way(laid, start, end):
    """Whether that line goes through all edges of the laid row."""
    begin = spot_of(laid.first, start)
    finish = spot_of(laid.last, end)
    for edge in laid.edges:
        if not goes_through(begin, finish, edge):
            return False
    return True


def shortest_square(laid_rows, start, end):
    """The square of the shortest way over the laid rows, all of which join the points."""
    shortest = None
    for laid in laid_rows:
        square = square_over(laid, start, end)
        # Most lines are too long to matter: what they go through is looked at last.
        if (shortest is None or square < shortest) and is_straight_way(laid, start, end):
            shortest = square
    return shortest
