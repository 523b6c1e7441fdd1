"""Promise 3: over."""

import unittest
from itertools import permutations, product

from tests import reference
from tests.lines import MANY, MOST, WAY, asked, begins, fly, last, over, placed, spider

# Both within a face, so that each is on one face alone.
APART = placed((3, 3, 3), (0, 1, 1), (1, 0, 1))


class NoRow(unittest.TestCase):
    def test_empty(self):
        self.assertEqual(last(over()), [-1])

    def test_no_face(self):
        for wrong in (6, 7, 60, MOST):
            for faces in [(wrong,), (0, wrong), (wrong, 0), (0, 3, wrong), (0, wrong, 3)]:
                self.assertEqual(last(over(*faces)), [-1], faces)

    def test_a_face_twice(self):
        for faces in [(0, 0), (0, 2, 0), (0, 3, 1, 2, 0), (2, 4, 1, 3, 4), (0, 3, 3), (0, 2, 4, 1, 3, 5, 0)]:
            self.assertEqual(last(over(*faces)), [-1], faces)

    def test_faces_not_beside_each_other(self):
        for faces in [(0, 1), (1, 0), (2, 3), (4, 5), (0, 2, 3), (0, 3, 2, 5), (4, 0, 1), (0, 4, 5, 1)]:
            self.assertEqual(last(over(*faces)), [-1], faces)

    def test_long_lists(self):
        self.assertEqual(last(over(*[0, 2] * 30)), [-1])
        self.assertEqual(last(over(*[0] * 60)), [-1])
        self.assertEqual(last(over(*range(60))), [-1])

    def test_all_lists_of_two_and_three(self):
        for count in (2, 3):
            for faces in product(range(7), repeat=count):
                refused = last(over(*faces)) == [-1]
                self.assertEqual(refused, not reference.is_row(faces), faces)


class NotJoining(unittest.TestCase):
    def test_the_first_or_last_face_is_another(self):
        for faces in [(0,), (2,), (4,), (4, 2), (0, 4), (2, 0), (5, 0, 2, 4), (0, 2, 5)]:
            self.assertEqual(last(*APART, over(*faces)), [-4], faces)

    def test_at_corners_some_rows_join(self):
        self.assertEqual(asked(over(0), over(1), over(1, 2), over(0, 2), over(3, 0, 5)), [[-4]] * 5)

    def test_where_both_are_matters(self):
        calls = [begins(4, 4, 4), spider(0, 1, 1), fly(0, 2, 2), over(0), fly(4, 2, 2), over(0), over(1)]
        self.assertEqual(asked(*calls)[3:], [[2], [1], [-4], [-4]])


class NoStraightWay(unittest.TestCase):
    def test_round_more_than_half_of_a_corner(self):
        # About the corner at 0, 0, 3 that's 63 and 90 and 63 degrees.
        self.assertEqual(last(*APART, over(0, 5, 2)), [-6])
        self.assertEqual(last(*placed((3, 3, 3), (1, 0, 1), (0, 1, 1)), over(2, 5, 0)), [-6])

    def test_beside_the_edge(self):
        # The line would leave face 4 over its side, not over the edge that's in common with face 1.
        self.assertEqual(last(*placed((4, 4, 4), (0, 2, 2), (2, 4, 2)), over(0, 4, 1, 3)), [-6])

    def test_rows_of_six(self):
        self.assertEqual(last(*APART, over(0, 3, 4, 1, 5, 2)), [-6])
        self.assertEqual(last(*APART, over(0, 5, 3, 4, 1, 2)), [-6])


class WhichComesFirst(unittest.TestCase):
    def test_no_row_before_not_joining(self):
        for faces in [(2, 3), (4, 4), (6,), (1, 0), ()]:
            self.assertEqual(last(*APART, over(*faces)), [-1], faces)

    def test_not_joining_before_no_straight_way(self):
        # The first is the row back of one that has no straight way here.
        self.assertEqual(last(*APART, over(2, 5, 0)), [-4])
        self.assertEqual(last(*APART, over(0, 5, 2, 4)), [-4])

    def test_as_the_other_way_of_writing_it_down(self):
        lists = [list(faces) for n in range(1, 5) for faces in permutations(range(7), n)]
        for first in range(0, len(lists), 60):
            part = lists[first:first + 60]
            told = asked(*APART, *[over(*faces) for faces in part])[3:]
            expected = [[reference.over((3, 3, 3), (0, 1, 1), (1, 0, 1), faces)] for faces in part]
            self.assertEqual(told, expected)


class StraightWay(unittest.TestCase):
    def test_on_one_face(self):
        self.assertEqual(last(*placed((9, 9, 9), (0, 1, 2), (0, 4, 6)), over(0)), [25])
        self.assertEqual(last(*placed((9, 9, 9), (0, 1, 2), (0, 1, 2)), over(0)), [0])

    def test_over_each_pair_of_faces(self):
        for first, second in permutations(range(6), 2):
            if first // 2 != second // 2:
                start, end = [2, 2, 2], [3, 3, 3]
                start[first // 2] = 8 * (first % 2)
                end[second // 2] = 8 * (second % 2)
                along = start[3 - first // 2 - second // 2] - end[3 - first // 2 - second // 2]
                ahead = abs(start[second // 2] - end[second // 2]) + abs(end[first // 2] - start[first // 2])
                told = last(*placed((8, 8, 8), start, end), over(first, second))
                self.assertEqual(told, [ahead ** 2 + along ** 2], (first, second))

    def test_that_is_not_the_shortest(self):
        self.assertEqual(last(*placed((9, 9, 9), (0, 6, 8), (6, 0, 8)), over(0, 2)), [144])

    def test_through_the_end_of_an_edge(self):
        # 45 and 90 and 45 degrees about the corner at 0, 0, 3.
        self.assertEqual(last(*placed((3, 3, 3), (0, 1, 2), (1, 0, 2)), over(0, 5, 2)), [8])
        self.assertEqual(last(*placed((3, 3, 3), (0, 1, 1), (1, 0, 1)), over(0, 4, 2)), [8])

    def test_along_an_edge(self):
        calls = placed((4, 5, 6), (4, 0, 1), (4, 0, 5))
        for faces in [(1,), (2,), (1, 2), (2, 1)]:
            self.assertEqual(last(*calls, over(*faces)), [16], faces)

    def test_from_a_corner_round_it(self):
        for faces in [(0, 3), (2, 0, 3), (4, 2, 0, 3), (2, 4, 0, 3), (4, 0, 3), (0, 3, 1), (0, 3, 5, 1)]:
            self.assertEqual(last(over(*faces)), [5], faces)

    def test_both_at_one_corner(self):
        calls = [begins(3, 4, 5), fly(0, 0, 0)]
        for faces in [(0,), (2,), (4,), (0, 2), (4, 0), (0, 2, 4), (4, 0, 2)]:
            self.assertEqual(last(*calls, over(*faces)), [0], faces)

    def test_round_the_box_to_the_same_place(self):
        # Where both are on the edge of two faces, the way round it goes over the other two as well.
        calls = placed((2, 3, 7), (1, 0, 0), (1, 0, 0))
        self.assertEqual(last(*calls, over(2, 5, 3, 4)), [400])
        self.assertEqual(last(*calls, over(4, 3, 5, 2)), [400])

    def test_dudeneys_room(self):
        calls = placed((30, 12, 12), (0, 6, 11), (30, 6, 1))
        expected = {(0, 4, 1): 1764, (0, 5, 1): 1764, (0, 2, 1): 1864, (0, 3, 1): 1864,
                    (0, 5, 2, 1): 1658, (0, 2, 4, 1): 1658, (0, 5, 2, 4, 1): 1600, (0, 5, 3, 4, 1): 1600}
        for faces, square in expected.items():
            self.assertEqual(last(*calls, over(*faces)), [square], faces)

    def test_rows_of_six(self):
        self.assertEqual(last(*APART, over(0, 3, 5, 1, 4, 2)), [136])
        self.assertEqual(last(over(0, 2, 4, 1, 3, 5)), [5])
        self.assertEqual(last(over(0, 2, 1, 4, 3, 5)), [9])
        self.assertEqual(last(over(0, 3, 1, 4, 2, 5)), [25])

    def test_nothing_is_changed(self):
        before = asked(*APART, WAY, MANY)[3:]
        between = [over(0, 2), over(0, 5, 2), over(), over(2, 0)]
        self.assertEqual(asked(*APART, *between, WAY, MANY)[-2:], before)

    def test_there_and_back_it_is_as_far(self):
        lengths, start, end = (4, 3, 5), (0, 1, 2), (3, 3, 5)
        there = placed(lengths, start, end)
        back = placed(lengths, end, start)
        for row in reference.ROWS:
            if row[0] == 0 and row[-1] in (3, 5):
                self.assertEqual(last(*there, over(*row)), last(*back, over(*row[::-1])), row)


class EveryRow(unittest.TestCase):
    def test_as_the_other_way_of_writing_it_down(self):
        for lengths, start, end in [((2, 5, 3), (0, 2, 1), (2, 4, 2)), ((4, 3, 6), (1, 3, 5), (4, 0, 2)),
                                    ((5, 5, 2), (2, 2, 2), (3, 3, 0)), ((40, 7, 9), (0, 0, 3), (40, 7, 4))]:
            for first in range(0, len(reference.ROWS), 70):
                rows = reference.ROWS[first:first + 70]
                told = asked(*placed(lengths, start, end), *[over(*row) for row in rows])[3:]
                self.assertEqual(told, [[reference.over(lengths, start, end, row)] for row in rows])


if __name__ == "__main__":
    unittest.main()
