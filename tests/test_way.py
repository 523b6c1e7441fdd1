"""Promise 2: way."""

import unittest
from itertools import product

from tests import reference
from tests.lines import WAY, begins, last, over, placed


def way(lengths, start, end):
    return last(*placed(lengths, start, end), WAY)


def longer_than_both(square, one, other):
    """Whether the root of the square is more than the roots of the two others together."""
    rest = square - one - other
    return rest > 0 and rest * rest > 4 * one * other


class Way(unittest.TestCase):
    def test_on_one_face_it_is_the_straight_one(self):
        self.assertEqual(way((9, 9, 9), (0, 1, 2), (0, 4, 6)), [25, 1, 0])
        self.assertEqual(way((9, 9, 9), (1, 9, 2), (8, 9, 2)), [49, 1, 3])
        self.assertEqual(way((9, 9, 9), (0, 0, 9), (9, 9, 9)), [162, 1, 5])
        self.assertEqual(way((1, 40, 40), (0, 1, 1), (0, 39, 39)), [2888, 1, 0])

    def test_along_an_edge_it_is_the_first_of_its_faces(self):
        self.assertEqual(way((4, 5, 6), (4, 0, 1), (4, 0, 5)), [16, 1, 1])
        self.assertEqual(way((4, 5, 6), (0, 5, 6), (4, 5, 6)), [16, 1, 3])

    def test_over_two_faces_beside_each_other(self):
        self.assertEqual(way((9, 9, 9), (0, 4, 2), (3, 0, 2)), [49, 2, 0, 2])
        self.assertEqual(way((5, 5, 5), (1, 0, 2), (3, 4, 5)), [53, 2, 2, 5])
        self.assertEqual(way((5, 5, 5), (3, 4, 5), (1, 0, 2)), [53, 2, 5, 2])

    def test_beside_each_other_but_shorter_over_a_third(self):
        # Over the common edge it's 6 + 6 along; over the top 1 + 6 one way and 6 + 1 the other.
        calls = placed((9, 9, 9), (0, 6, 8), (6, 0, 8))
        self.assertEqual(last(*calls, over(0, 2)), [144])
        self.assertEqual(last(*calls, WAY), [98, 3, 0, 5, 2])

    def test_to_the_opposite_face(self):
        self.assertEqual(way((4, 4, 4), (2, 2, 0), (2, 2, 4)), [64, 3, 4, 0, 5])
        self.assertEqual(way((30, 12, 12), (0, 6, 11), (30, 6, 11)), [1024, 3, 0, 5, 1])
        self.assertEqual(way((30, 12, 12), (30, 6, 11), (0, 6, 11)), [1024, 3, 1, 5, 0])

    def test_both_at_one_point(self):
        self.assertEqual(way((2, 2, 2), (1, 1, 2), (1, 1, 2)), [0, 1, 5])
        self.assertEqual(way((2, 2, 2), (1, 2, 2), (1, 2, 2)), [0, 1, 3])
        self.assertEqual(way((2, 2, 2), (2, 2, 2), (2, 2, 2)), [0, 1, 1])

    def test_dudeneys_room(self):
        self.assertEqual(way((30, 12, 12), (0, 6, 11), (30, 6, 1)), [1600, 5, 0, 5, 2, 4, 1])
        self.assertEqual(way((30, 12, 12), (30, 6, 1), (0, 6, 11)), [1600, 5, 1, 4, 2, 5, 0])
        self.assertEqual(way((12, 30, 12), (6, 0, 11), (6, 30, 1)), [1600, 5, 2, 5, 0, 4, 3])
        self.assertEqual(way((12, 12, 30), (11, 6, 0), (1, 6, 30)), [1600, 5, 4, 1, 2, 0, 5])

    def test_of_rows_as_short_the_fewest_faces(self):
        # Rows of three, four and more begin with 0, 2, come before 0, 3, and are as short.
        self.assertEqual(last(*placed((1, 1, 1), (0, 0, 0), (1, 1, 1)), over(0, 2, 1)), [5])
        self.assertEqual(way((1, 1, 1), (0, 0, 0), (1, 1, 1)), [5, 2, 0, 3])

    def test_of_these_the_first(self):
        self.assertEqual(way((6, 6, 6), (3, 0, 3), (3, 6, 3)), [144, 3, 2, 0, 3])
        self.assertEqual(way((6, 6, 6), (0, 3, 3), (6, 3, 3)), [144, 3, 0, 2, 1])

    def test_corner_to_corner_of_long_boxes(self):
        self.assertEqual(last(begins(1, 2, 3), WAY), [18, 2, 0, 3])
        self.assertEqual(last(begins(3, 2, 1), WAY), [18, 2, 2, 5])
        self.assertEqual(last(begins(40, 40, 40), WAY), [8000, 2, 0, 3])
        self.assertEqual(last(begins(40, 1, 1), WAY), [1604, 2, 2, 5])

    def test_there_and_back_it_is_as_far(self):
        points = reference.points_on((2, 3, 1))
        for start, end in product(points[::3], points):
            there = way((2, 3, 1), start, end)
            self.assertEqual(there[0], way((2, 3, 1), end, start)[0])
            self.assertEqual(last(*placed((2, 3, 1), start, end), over(*there[2:])), [there[0]])

    def test_by_no_other_place_is_it_shorter(self):
        points = reference.points_on((1, 2, 3))
        squares = {pair: way((1, 2, 3), *pair)[0] for pair in product(points, points)}
        for start, middle, end in product(points, points, points):
            by_way = squares[start, middle], squares[middle, end]
            self.assertFalse(longer_than_both(squares[start, end], *by_way), (start, middle, end))


if __name__ == "__main__":
    unittest.main()
