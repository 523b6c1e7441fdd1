"""The calls faces and state."""

import unittest
from itertools import product

from tests import reference
from tests.lines import FACES, MOST, STATE, asked, begins, fly, last, placed, spider


def state(lengths, start, end):
    return [0, 3, *lengths, 3, *start, 3, *end]


class Faces(unittest.TestCase):
    def test_at_corners(self):
        self.assertEqual(last(FACES), [3, 3, 0, 2, 4, 3, 1, 3, 5])
        self.assertEqual(last(*placed((3, 4, 5), (3, 0, 5), (0, 4, 0)), FACES), [3, 3, 1, 2, 5, 3, 0, 3, 4])
        self.assertEqual(last(*placed((3, 4, 5), (0, 4, 5), (3, 0, 0)), FACES), [3, 3, 0, 3, 5, 3, 1, 2, 4])

    def test_on_edges(self):
        self.assertEqual(last(*placed((3, 4, 5), (1, 0, 0), (3, 4, 2)), FACES), [2, 2, 2, 4, 2, 1, 3])
        self.assertEqual(last(*placed((3, 4, 5), (3, 1, 0), (0, 3, 5)), FACES), [2, 2, 1, 4, 2, 0, 5])

    def test_within_faces(self):
        inner = [(0, 1, 1), (3, 1, 1), (1, 0, 1), (1, 4, 1), (1, 1, 0), (1, 1, 5)]
        for first, second in product(range(6), range(6)):
            told = last(*placed((3, 4, 5), inner[first], inner[second]), FACES)
            self.assertEqual(told, [1, 1, first, 1, second])

    def test_at_places_of_different_kinds(self):
        self.assertEqual(last(*placed((3, 4, 5), (3, 4, 5), (1, 1, 0)), FACES), [3, 3, 1, 3, 5, 1, 4])
        self.assertEqual(last(*placed((3, 4, 5), (0, 2, 2), (0, 2, 0)), FACES), [1, 1, 0, 2, 0, 4])
        self.assertEqual(last(*placed((3, 4, 5), (0, 2, 5), (3, 4, 0)), FACES), [2, 2, 0, 5, 3, 1, 3, 4])

    def test_both_at_one_point(self):
        self.assertEqual(last(*placed((3, 4, 5), (0, 2, 5), (0, 2, 5)), FACES), [2, 2, 0, 5, 2, 0, 5])

    def test_all_points_of_a_small_box(self):
        points = reference.points_on((2, 1, 3))
        for start, end in product(points, points):
            here, there = reference.faces_of((2, 1, 3), start), reference.faces_of((2, 1, 3), end)
            told = last(*placed((2, 1, 3), start, end), FACES)
            self.assertEqual(told, [len(here), len(here), *here, len(there), *there], (start, end))

    def test_as_many_as_spider_and_fly_answer(self):
        for point in reference.points_on((2, 2, 2)):
            told = asked(begins(2, 2, 2), spider(*point), fly(*point), FACES)[1:]
            self.assertEqual([told[0][0], told[1][0]], [told[2][0], told[2][2 + told[2][1]]])


class State(unittest.TestCase):
    def test_at_a_lines_beginning(self):
        self.assertEqual(last(STATE), state((1, 1, 1), (0, 0, 0), (1, 1, 1)))

    def test_after_begins(self):
        self.assertEqual(last(begins(2, 3, 6), STATE), state((2, 3, 6), (0, 0, 0), (2, 3, 6)))
        self.assertEqual(last(begins(40, 1, 40), STATE), state((40, 1, 40), (0, 0, 0), (40, 1, 40)))
        moved = placed((9, 9, 9), (4, 9, 4), (1, 0, 8))
        self.assertEqual(last(*moved, begins(2, 3, 6), STATE), state((2, 3, 6), (0, 0, 0), (2, 3, 6)))

    def test_after_spider(self):
        self.assertEqual(last(spider(0, 1, 1), STATE), state((1, 1, 1), (0, 1, 1), (1, 1, 1)))
        calls = [begins(7, 8, 9), spider(7, 1, 2), spider(3, 8, 5)]
        self.assertEqual(last(*calls, STATE), state((7, 8, 9), (3, 8, 5), (7, 8, 9)))

    def test_after_fly(self):
        self.assertEqual(last(fly(0, 1, 1), STATE), state((1, 1, 1), (0, 0, 0), (0, 1, 1)))
        calls = [begins(7, 8, 9), fly(7, 1, 2), fly(3, 8, 5)]
        self.assertEqual(last(*calls, STATE), state((7, 8, 9), (0, 0, 0), (3, 8, 5)))

    def test_after_a_refusal_of_begins(self):
        before = placed((7, 8, 9), (7, 1, 2), (3, 8, 5))
        for wrong in [(0, 1, 2), (1, 0, 2), (1, 2, 0), (41, 2, 3), (2, 41, 3), (2, 3, 41), (MOST, MOST, MOST)]:
            self.assertEqual(asked(*before, begins(*wrong), STATE)[3:], [[-1], state((7, 8, 9), (7, 1, 2), (3, 8, 5))])

    def test_after_a_refusal_of_spider_or_fly(self):
        before = placed((7, 8, 9), (7, 1, 2), (3, 8, 5))
        for put in (spider, fly):
            for wrong in [(1, 1, 1), (8, 0, 0), (0, 9, 0), (0, 0, 10), (MOST, 0, 9)]:
                told = asked(*before, put(*wrong), STATE)[3:]
                self.assertEqual(told, [[-1], state((7, 8, 9), (7, 1, 2), (3, 8, 5))])

    def test_after_a_refusal_at_a_lines_beginning(self):
        for wrong in [begins(0, 1, 1), spider(2, 0, 0), fly(0, 0, 2)]:
            self.assertEqual(asked(wrong, STATE), [[-1], state((1, 1, 1), (0, 0, 0), (1, 1, 1))])

    def test_what_was_told_stays(self):
        told = asked(begins(2, 3, 6), STATE, spider(2, 1, 1), STATE, fly(0, 0, 0), STATE)
        expected = [((0, 0, 0), (2, 3, 6)), ((2, 1, 1), (2, 3, 6)), ((2, 1, 1), (0, 0, 0))]
        self.assertEqual(told[1::2], [state((2, 3, 6), start, end) for start, end in expected])


if __name__ == "__main__":
    unittest.main()
