"""many, and way with it, held against the other way of writing it down."""

import unittest

from tests import reference
from tests.lines import MANY, WAY, asked, begins, fly, last, over, placed, spider


def many(lengths, start, end):
    return last(*placed(lengths, start, end), MANY)


class Many(unittest.TestCase):
    def test_within_one_face(self):
        # Spider and fly in the middle of a face: no row comes back to its first face.
        self.assertEqual(many((2, 2, 2), (1, 1, 2), (1, 1, 2)), [1, 1, 1])
        self.assertEqual(many((9, 9, 9), (0, 1, 2), (0, 4, 6)), [1, 1, 1])

    def test_from_the_middle_to_the_middle(self):
        # Four rows of three, eight of four, eight of five; four ways are as short.
        self.assertEqual(many((4, 4, 4), (2, 2, 0), (2, 2, 4)), [20, 1, 4])
        self.assertEqual(many((4, 4, 4), (2, 2, 0), (0, 2, 2)), [14, 1, 1])

    def test_dudeneys_room(self):
        self.assertEqual(many((30, 12, 12), (0, 6, 11), (30, 6, 1)), [16, 1, 2])
        self.assertEqual(many((30, 12, 12), (0, 6, 11), (30, 6, 11)), [14, 1, 1])

    def test_on_edges(self):
        # Over either face and over both, one way or the other: those four are as short.
        self.assertEqual(many((2, 2, 2), (1, 0, 0), (1, 0, 0)), [22, 1, 4])
        self.assertEqual(many((2, 2, 2), (1, 1, 0), (1, 0, 0)), [7, 1, 2])

    def test_at_corners(self):
        # Three faces, six pairs of them and six rows of all three have no length.
        self.assertEqual(many((2, 2, 2), (0, 0, 0), (0, 0, 0)), [87, 1, 15])
        self.assertEqual(many((2, 2, 2), (0, 0, 0), (2, 0, 0)), [80, 1, 24])
        self.assertEqual(many((1, 1, 1), (0, 0, 0), (1, 1, 1)), [180, 1, 150])
        self.assertEqual(many((1, 2, 3), (0, 0, 0), (1, 2, 3)), [180, 1, 50])
        self.assertEqual(many((1, 2, 3), (0, 0, 0), (0, 2, 3)), [129, 1, 25])

    def test_there_and_back_as_many(self):
        for lengths, start, end in [((3, 4, 5), (0, 1, 2), (3, 3, 5)), ((7, 2, 9), (3, 2, 9), (7, 1, 0))]:
            self.assertEqual(many(lengths, start, end), many(lengths, end, start))

    def test_it_counts_what_over_and_way_answer(self):
        for lengths, start, end in [((3, 4, 5), (0, 1, 2), (3, 3, 5)), ((6, 6, 6), (3, 0, 0), (3, 6, 6))]:
            calls = placed(lengths, start, end)
            squares = []
            for first in range(0, len(reference.ROWS), 70):
                part = reference.ROWS[first:first + 70]
                squares += [told[0] for told in asked(*calls, *[over(*row) for row in part])[3:] if told[0] >= 0]
            least = last(*calls, WAY)[0]
            self.assertEqual(least, min(squares))
            self.assertEqual(last(*calls, MANY), [len(squares), 1, squares.count(least)])

    def test_nothing_is_changed(self):
        told = asked(begins(3, 4, 5), spider(0, 1, 2), fly(3, 3, 5), MANY, WAY, MANY, WAY)[3:]
        self.assertEqual(told[:2], told[2:])


class AsTheOtherWay(unittest.TestCase):
    def hold(self, lengths, start, end):
        told = asked(*placed(lengths, start, end), WAY, MANY)[3:]
        flat = [number for answer in told for number in [len(answer), *answer]]
        self.assertEqual(flat, reference.way_and_many(lengths, start, end), (lengths, start, end))

    def test_all_points_of_a_small_box(self):
        points = reference.points_on((2, 1, 3))
        for start in points[::5]:
            for end in points:
                self.hold((2, 1, 3), start, end)

    def test_points_of_larger_boxes(self):
        starts = [(0, 2, 1), (3, 0, 2), (7, 5, 4), (0, 0, 0), (2, 5, 2)]
        ends = [(7, 3, 3), (4, 5, 1), (2, 2, 0), (5, 4, 9), (0, 5, 9), (7, 0, 4)]
        for start in starts:
            for end in ends:
                self.hold((7, 5, 9), start, end)

    def test_long_boxes(self):
        for lengths in [(40, 3, 5), (3, 40, 5), (5, 3, 40), (40, 40, 1), (1, 40, 40)]:
            high = [length - 1 for length in lengths]
            for axis in range(3):
                start, end = [1, 1, 1], list(high)
                start[axis], end[axis] = 0, lengths[axis]
                if reference.faces_of(lengths, start) and reference.faces_of(lengths, end):
                    self.hold(lengths, start, end)


if __name__ == "__main__":
    unittest.main()
