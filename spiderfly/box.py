"""A box with a spider and a fly on it, and the answers to calls about it."""

from spiderfly.rows import faces_at, is_row, is_straight_way, laid_from, lay, points_on, shortest_square, square_over

LONGEST = 40
LONGEST_SEARCHED = 4

BEGINS = 0
SPIDER = 1
FLY = 2
OVER = 4
WITHIN = 8


class Box:
    """A box as it is at a line's beginning."""

    def __init__(self):
        self.lengths = [1, 1, 1]
        self.spider = [0, 0, 0]
        self.fly = [1, 1, 1]


def told_list(numbers):
    """A list as it is told: behind how many numbers it has."""
    return [len(numbers)] + numbers


def answer_begins(box, lengths):
    if min(lengths) < 1 or max(lengths) > LONGEST:
        return [-1]
    box.lengths = lengths
    box.spider = [0, 0, 0]
    box.fly = list(lengths)
    return [0]


def answer_spider(box, point):
    faces = faces_at(box.lengths, point)
    if len(faces) == 0:
        return [-1]
    box.spider = point
    return [len(faces)]


def answer_fly(box, point):
    faces = faces_at(box.lengths, point)
    if len(faces) == 0:
        return [-1]
    box.fly = point
    return [len(faces)]


def spider_faces(box):
    return faces_at(box.lengths, box.spider)


def fly_faces(box):
    return faces_at(box.lengths, box.fly)


def straight_ways(box):
    """The straight ways from the spider to the fly, each as its square and its row, in the order of rows."""
    last_faces = fly_faces(box)
    ways = []
    for laid in laid_from(box.lengths, spider_faces(box)):
        if laid.row[-1] in last_faces and is_straight_way(laid, box.spider, box.fly):
            ways.append((square_over(laid, box.spider, box.fly), laid.row))
    return ways


def answer_way(box, nothing):
    best = min(straight_ways(box), key=lambda found: (found[0], len(found[1]), found[1]))
    return [best[0]] + told_list(best[1])


def joins(box, row):
    return row[0] in spider_faces(box) and row[-1] in fly_faces(box)


def answer_over(box, faces):
    if not is_row(faces):
        return [-1]
    if not joins(box, faces):
        return [-4]
    laid = lay(box.lengths, faces)
    if not is_straight_way(laid, box.spider, box.fly):
        return [-6]
    return [square_over(laid, box.spider, box.fly)]


def answer_many(box, nothing):
    squares = [square for square, row in straight_ways(box)]
    return [len(squares)] + told_list([squares.count(min(squares))])


def answer_straight(box, nothing):
    return [sum([(there - here) ** 2 for here, there in zip(box.spider, box.fly)])]


def may_be_searched(box):
    return max(box.lengths) <= LONGEST_SEARCHED


def squares_from_spider(box):
    """For each point with whole coordinates on the box, in their order, the square of the shortest way to it."""
    laid_rows = laid_from(box.lengths, spider_faces(box))
    found = []
    for point in points_on(box.lengths):
        faces = faces_at(box.lengths, point)
        joining = [laid for laid in laid_rows if laid.row[-1] in faces]
        found.append((point, shortest_square(joining, box.spider, point)))
    return found


def answer_farthest(box, nothing):
    if not may_be_searched(box):
        return [-9]
    found = squares_from_spider(box)
    greatest = max([square for point, square in found])
    farthest = [point for point, square in found if square == greatest]
    return [greatest] + told_list(farthest[0]) + told_list([len(farthest)])


def answer_within(box, handed):
    if not may_be_searched(box):
        return [-9]
    return [len([square for point, square in squares_from_spider(box) if square <= handed[0]])]


def answer_faces(box, nothing):
    faces = spider_faces(box)
    return [len(faces)] + told_list(faces) + told_list(fly_faces(box))


def answer_state(box, nothing):
    return [0] + told_list(box.lengths) + told_list(box.spider) + told_list(box.fly)


# Each stands at its call's number.
ANSWERERS = (
    answer_begins, answer_spider, answer_fly, answer_way, answer_over, answer_many,
    answer_straight, answer_farthest, answer_within, answer_faces, answer_state,
)


def numbers_from(calls, place):
    """Where the numbers handed over begin, in the call that stands at the place."""
    if calls[place] == OVER:
        return place + 2
    return place + 1


def call_end(calls, place):
    """Where the call that stands at the place is over."""
    if calls[place] == OVER:
        return numbers_from(calls, place) + calls[place + 1]
    if calls[place] in (BEGINS, SPIDER, FLY):
        return numbers_from(calls, place) + 3
    if calls[place] == WITHIN:
        return numbers_from(calls, place) + 1
    return numbers_from(calls, place)


def answers(calls):
    """The answers to the calls about one new box, each behind how many numbers it has."""
    box = Box()
    told = []
    place = 0
    while place < len(calls):
        end = call_end(calls, place)
        # A slice is a copy: the box may keep it, and what was handed in stays as it was.
        handed = calls[numbers_from(calls, place):end]
        answer = ANSWERERS[calls[place]](box, handed)
        told.append(len(answer))
        told.extend(answer)
        place = end
    return told
