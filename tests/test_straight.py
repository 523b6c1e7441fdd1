"""The call straight: through the air."""

import unittest
from itertools import product

from tests import reference
from tests.lines import MOST, STRAIGHT, WAY, asked, begins, fly, last, placed, spider


def straight(lengths, start, end):
    return last(*placed(lengths, start, end), STRAIGHT)


class Straight(unittest.TestCase):
    def test_at_one_point(self):
        for point in [(0, 0, 0), (3, 0, 2), (3, 4, 5), (1, 4, 1)]:
            self.assertEqual(straight((3, 4, 5), point, point), [0], point)

    def test_on_one_face(self):
        self.assertEqual(straight((9, 9, 9), (0, 1, 2), (0, 4, 6)), [25])
        self.assertEqual(straight((9, 9, 9), (1, 9, 2), (8, 9, 2)), [49])
        self.assertEqual(straight((1, 40, 40), (0, 1, 1), (0, 39, 39)), [2888])

    def test_on_faces_beside_each_other(self):
        self.assertEqual(straight((9, 9, 9), (0, 4, 2), (3, 0, 2)), [25])
        self.assertEqual(straight((5, 5, 5), (1, 0, 2), (3, 4, 5)), [29])

    def test_on_opposite_faces(self):
        self.assertEqual(straight((4, 4, 4), (2, 2, 0), (2, 2, 4)), [16])
        self.assertEqual(straight((30, 12, 12), (0, 6, 11), (30, 6, 1)), [1000])
        self.assertEqual(straight((30, 12, 12), (30, 6, 1), (0, 6, 11)), [1000])

    def test_from_corner_to_corner(self):
        self.assertEqual(last(STRAIGHT), [3])
        self.assertEqual(last(begins(2, 3, 6), STRAIGHT), [49])
        self.assertEqual(last(begins(40, 40, 40), STRAIGHT), [4800])

    def test_there_and_back(self):
        self.assertEqual(straight((7, 8, 9), (7, 1, 2), (3, 8, 0)), [69])
        self.assertEqual(straight((7, 8, 9), (3, 8, 0), (7, 1, 2)), [69])

    def test_all_pairs_of_a_small_box(self):
        lengths = (2, 3, 1)
        points = reference.points_on(lengths)
        for start, end in product(points, points):
            told = asked(*placed(lengths, start, end), STRAIGHT, WAY)[3:]
            self.assertEqual(told[0], [reference.straight(start, end)])
            common = set(reference.faces_of(lengths, start)) & set(reference.faces_of(lengths, end))
            if common:
                self.assertEqual(told[0][0], told[1][0], (start, end))
            else:
                self.assertLess(told[0][0], told[1][0], (start, end))

    def test_larger_boxes(self):
        for start, end in product([(0, 6, 11), (4, 0, 3), (30, 12, 12)], [(30, 6, 1), (30, 0, 5), (17, 12, 9)]):
            told = asked(*placed((30, 12, 12), start, end), STRAIGHT, WAY)[3:]
            self.assertEqual(told[0], [reference.straight(start, end)])
            self.assertLessEqual(told[0][0], told[1][0])

    def test_refused_points_do_not_count(self):
        calls = [*placed((9, 9, 9), (0, 1, 2), (0, 4, 6)), spider(1, 1, 1), fly(0, 0, MOST), begins(0, 1, 1)]
        self.assertEqual(last(*calls, STRAIGHT), [25])


if __name__ == "__main__":
    unittest.main()
