"""Promise 4: farthest and within."""

import unittest

from tests import reference
from tests.lines import FARTHEST, MANY, MOST, STATE, WAY, asked, begins, fly, last, placed, spider, within


def farthest(lengths, start):
    return last(begins(*lengths), spider(*start), FARTHEST)


def within_each(lengths, start, squares):
    told = asked(begins(*lengths), spider(*start), *[within(square) for square in squares])
    return [answer[0] for answer in told[2:]]


class Farthest(unittest.TestCase):
    def test_from_a_corner(self):
        self.assertEqual(last(FARTHEST), [5, 3, 1, 1, 1, 1, 1])
        self.assertEqual(last(begins(1, 2, 3), FARTHEST), [18, 3, 1, 2, 3, 1, 1])
        self.assertEqual(last(begins(4, 4, 4), FARTHEST), [80, 3, 4, 4, 4, 1, 1])
        self.assertEqual(farthest((4, 4, 4), (4, 0, 4)), [80, 3, 0, 4, 0, 1, 1])
        self.assertEqual(farthest((2, 3, 4), (2, 3, 4)), [41, 3, 0, 0, 0, 1, 1])

    def test_from_an_edge(self):
        self.assertEqual(farthest((4, 4, 4), (0, 0, 1)), [68, 3, 4, 4, 3, 1, 1])
        self.assertEqual(farthest((3, 3, 3), (3, 1, 0)), [37, 3, 0, 2, 3, 1, 1])
        # Not the point that lies opposite, but a corner beyond it.
        self.assertEqual(farthest((2, 3, 4), (0, 0, 1)), [34, 3, 2, 3, 4, 1, 1])

    def test_from_within_a_face(self):
        self.assertEqual(farthest((4, 4, 4), (2, 2, 0)), [64, 3, 2, 2, 4, 1, 1])
        self.assertEqual(farthest((2, 2, 4), (1, 1, 0)), [36, 3, 1, 1, 4, 1, 1])
        self.assertEqual(farthest((2, 2, 4), (0, 1, 1)), [25, 3, 2, 1, 4, 1, 1])

    def test_of_several_the_first(self):
        # The other point lies as far off the other way along the long axis.
        self.assertEqual(farthest((2, 2, 4), (0, 0, 2)), [20, 3, 2, 2, 0, 1, 2])
        self.assertEqual(farthest((2, 4, 2), (0, 2, 0)), [20, 3, 2, 0, 2, 1, 2])
        self.assertEqual(farthest((4, 2, 2), (2, 0, 0)), [20, 3, 0, 2, 2, 1, 2])
        self.assertEqual(farthest((3, 4, 2), (0, 2, 1)), [26, 3, 3, 1, 1, 1, 2])
        self.assertEqual(farthest((4, 4, 1), (2, 0, 0)), [26, 3, 1, 4, 1, 1, 2])

    def test_all_points_that_have_it(self):
        for lengths, start in [((2, 2, 4), (0, 1, 2)), ((4, 1, 1), (2, 0, 0)), ((3, 4, 2), (1, 2, 0))]:
            calls = [begins(*lengths), spider(*start)]
            told = last(*calls, FARTHEST)
            ways = [(last(*calls, fly(*point), WAY)[0], point) for point in reference.points_on(lengths)]
            having = [point for square, point in ways if square == max(ways)[0]]
            self.assertEqual(told, [max(ways)[0], 3, *min(having), 1, len(having)])

    def test_the_way_there_is_as_long(self):
        told = asked(begins(4, 3, 2), spider(4, 1, 1), FARTHEST, fly(0, 2, 1), WAY)
        self.assertEqual(told[2], [told[4][0], 3, 0, 2, 1, 1, 1])

    def test_the_fly_does_not_matter(self):
        calls = [begins(2, 3, 4), spider(0, 0, 2)]
        expected = last(*calls, FARTHEST)
        for point in [(0, 0, 2), (2, 3, 1), (1, 0, 3)]:
            self.assertEqual(last(*calls, fly(*point), FARTHEST), expected)

    def test_lengths_of_1_to_4_on_each_axis(self):
        for lengths in [(1, 1, 1), (4, 1, 1), (1, 4, 1), (1, 1, 4), (4, 4, 4), (3, 2, 1), (2, 4, 3)]:
            told = last(begins(*lengths), FARTHEST)
            self.assertEqual(told, reference.farthest(reference.squares_from(lengths, (0, 0, 0))), lengths)


class Within(unittest.TestCase):
    def test_the_spiders_own_point_counts(self):
        for lengths, start in [((1, 1, 1), (0, 0, 0)), ((4, 4, 4), (2, 0, 0)), ((2, 3, 4), (1, 1, 4))]:
            self.assertEqual(within_each(lengths, start, [0]), [1])

    def test_step_by_step(self):
        # Round a corner there are three points at 1 and three at 2; at 5 the corner opposite.
        self.assertEqual(within_each((1, 1, 1), (0, 0, 0), range(7)), [1, 4, 7, 7, 7, 8, 8])
        # On the face 9 points at 0, 1 and 2; 4 over an edge, then 8 beside these, at 4 and 5 from the middle.
        self.assertEqual(within_each((2, 2, 2), (1, 1, 0), [0, 1, 2, 3, 4, 5]), [1, 5, 9, 9, 13, 17])

    def test_about_the_greatest_square(self):
        for lengths, start in [((1, 1, 1), (0, 0, 0)), ((4, 4, 4), (0, 0, 1)), ((2, 2, 4), (0, 0, 2)),
                               ((3, 4, 2), (0, 2, 1)), ((4, 1, 1), (2, 0, 0))]:
            told = farthest(lengths, start)
            count = len(reference.points_on(lengths))
            greatest, having = told[0], told[6]
            squares = [greatest - 1, greatest, greatest + 1, MOST]
            self.assertEqual(within_each(lengths, start, squares), [count - having, count, count, count], lengths)

    def test_all_points(self):
        for lengths, count in [((1, 1, 1), 8), ((2, 2, 2), 26), ((4, 4, 4), 98), ((1, 2, 3), 24), ((4, 1, 4), 50)]:
            self.assertEqual(last(begins(*lengths), within(MOST)), [count])

    def test_it_counts_what_way_answers(self):
        lengths, start = (2, 3, 2), (0, 1, 2)
        ways = [last(*placed(lengths, start, point), WAY)[0] for point in reference.points_on(lengths)]
        squares = sorted(set(ways)) + [square + 1 for square in ways]
        for square, told in zip(squares, within_each(lengths, start, squares)):
            self.assertEqual(told, sum(way <= square for way in ways), square)

    def test_the_fly_does_not_matter(self):
        calls = [begins(2, 3, 4), spider(0, 0, 2)]
        for point in [(0, 0, 2), (2, 3, 1), (1, 0, 3)]:
            self.assertEqual(last(*calls, fly(*point), within(9)), last(*calls, within(9)))


class AsTheOtherWay(unittest.TestCase):
    def hold(self, lengths, start):
        squares = reference.squares_from(lengths, start)
        self.assertEqual(farthest(lengths, start), reference.farthest(squares), (lengths, start))
        asked_for = sorted(set(squares.values()))
        expected = [sum(square <= most for square in squares.values()) for most in asked_for]
        self.assertEqual(within_each(lengths, start, asked_for), expected, (lengths, start))

    def test_all_points_of_small_boxes(self):
        for lengths in [(1, 1, 1), (2, 1, 1), (1, 2, 1), (1, 1, 2)]:
            for start in reference.points_on(lengths):
                self.hold(lengths, start)

    def test_points_on_larger_boxes(self):
        for lengths, start in [((4, 4, 4), (4, 3, 1)), ((4, 3, 4), (1, 0, 2)), ((3, 4, 2), (3, 4, 1)),
                               ((2, 3, 4), (1, 3, 0)), ((4, 1, 3), (4, 1, 3)), ((1, 4, 4), (1, 3, 4)),
                               ((3, 3, 3), (2, 1, 3)), ((4, 4, 2), (0, 0, 1)), ((2, 4, 4), (0, 1, 3))]:
            self.hold(lengths, start)


class TooLong(unittest.TestCase):
    def test_4_and_5_on_each_axis(self):
        for axis in range(3):
            for length, refused in [(3, False), (4, False), (5, True), (6, True), (39, True), (40, True)]:
                lengths = [1, 2, 1]
                lengths[axis] = length
                told = asked(begins(*lengths), FARTHEST, within(0), within(MOST))
                self.assertEqual([answer == [-9] for answer in told], [False] + [refused] * 3, lengths)

    def test_several_lengths(self):
        for lengths in [(5, 5, 5), (40, 40, 40), (5, 1, 40), (4, 4, 5), (5, 4, 4), (4, 5, 4)]:
            self.assertEqual(asked(begins(*lengths), FARTHEST, within(7))[1:], [[-9], [-9]], lengths)

    def test_whatever_the_square_is(self):
        squares = [0, 1, 4, 5, 8000, MOST - 1, MOST]
        self.assertEqual(asked(begins(1, 5, 1), *[within(square) for square in squares])[1:], [[-9]] * 7)

    def test_wherever_the_spider_is(self):
        for point in [(0, 0, 0), (0, 5, 1), (4, 4, 0), (0, 2, 2)]:
            self.assertEqual(asked(begins(4, 5, 4), spider(*point), FARTHEST, within(9))[2:], [[-9], [-9]], point)

    def test_all_is_as_it_was(self):
        before = [begins(4, 5, 6), spider(0, 1, 2), fly(4, 2, 3)]
        then = [STATE, WAY, MANY, spider(4, 5, 6), fly(0, 0, 3), STATE]
        told = asked(*before, FARTHEST, within(0), within(MOST), *then)
        self.assertEqual(told[3:6], [[-9]] * 3)
        self.assertEqual(told[6:], asked(*before, *then)[3:])

    def test_refused_lengths_do_not_count(self):
        expected = last(begins(2, 3, 4), FARTHEST)
        self.assertEqual(last(begins(2, 3, 4), begins(5, 5, 41), FARTHEST), expected)
        self.assertEqual(last(begins(5, 5, 5), begins(0, 1, 1), FARTHEST), [-9])

    def test_the_lengths_count_not_the_points(self):
        self.assertEqual(last(begins(5, 1, 1), spider(4, 1, 1), fly(4, 0, 0), FARTHEST), [-9])
        self.assertEqual(last(begins(5, 1, 1), begins(4, 1, 1), FARTHEST), [20, 3, 4, 1, 1, 1, 1])


if __name__ == "__main__":
    unittest.main()
