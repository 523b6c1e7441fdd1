"""A box with a spider and a fly on it, and the answers to calls about it."""

from spiderfly.rows import faces_at, is_row, rows_joining, straight_square

LONGEST = 40

BEGINS = 0
SPIDER = 1
FLY = 2
OVER = 4


class Box:
    """A box as it is at a line's beginning."""

    def __init__(self):
        self.lengths = [1, 1, 1]
        self.spider = [0, 0, 0]
        self.fly = [1, 1, 1]


def answer_begins(box, lengths):
    if min(lengths) < 1 or max(lengths) > LONGEST:
        return [-1]
    box.lengths = lengths
    box.spider = [0, 0, 0]
    box.fly = list(lengths)
    return [0]


def answer_spider(box, point):
    faces = faces_at(box.lengths, point)
    if len(faces) == 0:
        return [-1]
    box.spider = point
    return [len(faces)]


def answer_fly(box, point):
    faces = faces_at(box.lengths, point)
    if len(faces) == 0:
        return [-1]
    box.fly = point
    return [len(faces)]


def straight_ways(box):
    """The straight ways from the spider to the fly, each as its square and its row, in the order of rows."""
    spider_faces = faces_at(box.lengths, box.spider)
    fly_faces = faces_at(box.lengths, box.fly)
    ways = []
    for row in rows_joining(spider_faces, fly_faces):
        square = straight_square(box.lengths, row, box.spider, box.fly)
        if square is not None:
            ways.append((square, row))
    return ways


def answer_way(box, nothing):
    best = min(straight_ways(box), key=lambda found: (found[0], len(found[1]), found[1]))
    return [best[0], len(best[1])] + best[1]


def joins(box, row):
    return row[0] in faces_at(box.lengths, box.spider) and row[-1] in faces_at(box.lengths, box.fly)


def answer_over(box, faces):
    if not is_row(faces):
        return [-1]
    if not joins(box, faces):
        return [-4]
    square = straight_square(box.lengths, faces, box.spider, box.fly)
    if square is None:
        return [-6]
    return [square]


def answer_many(box, nothing):
    squares = [found[0] for found in straight_ways(box)]
    return [len(squares), 1, squares.count(min(squares))]


# Each stands at its call's number.
ANSWERERS = (answer_begins, answer_spider, answer_fly, answer_way, answer_over, answer_many)


def numbers_from(calls, place):
    """Where the numbers handed over begin, in the call that stands at the place."""
    if calls[place] == OVER:
        return place + 2
    return place + 1


def call_end(calls, place):
    """Where the call that stands at the place is over."""
    if calls[place] == OVER:
        return numbers_from(calls, place) + calls[place + 1]
    if calls[place] in (BEGINS, SPIDER, FLY):
        return numbers_from(calls, place) + 3
    return numbers_from(calls, place)


def answers(calls):
    """The answers to the calls about one new box, each behind how many numbers it has."""
    box = Box()
    told = []
    place = 0
    while place < len(calls):
        end = call_end(calls, place)
        # A slice is a copy: the box may keep it, and what was handed in stays as it was.
        handed = calls[numbers_from(calls, place):end]
        answer = ANSWERERS[calls[place]](box, handed)
        told.append(len(answer))
        told.extend(answer)
        place = end
    return told
