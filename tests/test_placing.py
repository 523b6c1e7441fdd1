"""Promise 1: begins, spider, fly."""

import unittest

from tests.lines import MANY, MOST, WAY, asked, begins, fly, last, over, spider


class Begins(unittest.TestCase):
    def test_lengths_inside(self):
        for lengths in [(1, 1, 1), (40, 40, 40), (1, 40, 1), (40, 1, 20), (2, 3, 4)]:
            self.assertEqual(last(begins(*lengths)), [0])

    def test_lengths_outside_on_each_axis(self):
        for wrong in (0, 41, MOST):
            for axis in range(3):
                lengths = [7, 7, 7]
                lengths[axis] = wrong
                self.assertEqual(last(begins(*lengths)), [-1], lengths)

    def test_edges_of_the_range_on_each_axis(self):
        for right in (1, 40):
            for axis in range(3):
                lengths = [7, 7, 7]
                lengths[axis] = right
                self.assertEqual(last(begins(*lengths)), [0], lengths)

    def test_spider_and_fly_are_at_the_ends(self):
        # At 0, 0, 0 and 2, 3, 6 the least of the three unfoldings is 6 by 2 + 3.
        self.assertEqual(last(begins(2, 3, 6), WAY), [61, 2, 0, 3])
        self.assertEqual(last(begins(2, 3, 6), fly(0, 0, 0), WAY), [0, 1, 0])
        self.assertEqual(last(begins(2, 3, 6), spider(2, 3, 6), WAY), [0, 1, 1])

    def test_spider_and_fly_go_back_to_the_ends(self):
        moved = [begins(9, 9, 9), spider(4, 9, 4), fly(1, 0, 8)]
        self.assertEqual(last(*moved, begins(2, 3, 6), WAY), last(begins(2, 3, 6), WAY))
        self.assertEqual(last(*moved, begins(9, 9, 9), WAY), last(begins(9, 9, 9), WAY))

    def test_the_lengths_stay_where_the_fly_goes(self):
        # The fly begins at the lengths, but these aren't the fly's.
        self.assertEqual(asked(begins(2, 3, 6), fly(0, 1, 1), fly(2, 3, 6), fly(0, 1, 7)), [[0], [1], [3], [-1]])

    def test_after_a_refusal_all_is_as_it_was(self):
        before = [begins(5, 6, 7), spider(5, 2, 3), fly(1, 6, 7)]
        for wrong in [(0, 1, 1), (1, 41, 1), (9, 9, MOST)]:
            told = asked(*before, begins(*wrong), WAY, MANY, spider(5, 6, 7), fly(5, 6, 7))
            self.assertEqual(told[3], [-1])
            self.assertEqual(told[4:], asked(*before, WAY, MANY, spider(5, 6, 7), fly(5, 6, 7))[3:])


class Points(unittest.TestCase):
    """What holds for the spider holds for the fly."""

    def test_on_how_many_faces(self):
        expected = {
            (0, 0, 0): 3, (3, 4, 5): 3, (3, 0, 5): 3, (0, 4, 0): 3,
            (1, 0, 0): 2, (3, 2, 0): 2, (0, 4, 1): 2, (3, 4, 4): 2,
            (0, 1, 1): 1, (3, 1, 1): 1, (1, 0, 1): 1, (1, 4, 1): 1, (1, 1, 0): 1, (1, 1, 5): 1,
        }
        for point, count in expected.items():
            for put in (spider, fly):
                self.assertEqual(last(begins(3, 4, 5), put(*point)), [count], point)

    def test_within_the_box_is_no_point_on_it(self):
        for point in [(1, 1, 1), (2, 3, 4), (1, 3, 2)]:
            for put in (spider, fly):
                self.assertEqual(last(begins(3, 4, 5), put(*point)), [-1], point)

    def test_outside_the_box(self):
        for point in [(4, 0, 0), (0, 5, 0), (0, 0, 6), (MOST, 0, 0), (0, MOST, 0), (0, 0, MOST), (4, 5, 6)]:
            for put in (spider, fly):
                self.assertEqual(last(begins(3, 4, 5), put(*point)), [-1], point)

    def test_it_is_there_from_now_on(self):
        self.assertEqual(last(begins(9, 9, 9), spider(0, 1, 2), fly(0, 4, 6), WAY), [25, 1, 0])
        self.assertEqual(last(begins(9, 9, 9), spider(9, 1, 2), fly(9, 4, 6), spider(9, 4, 5), WAY), [1, 1, 1])

    def test_after_a_refusal_it_is_where_it_was(self):
        before = [begins(9, 9, 9), spider(0, 1, 2), fly(0, 4, 6)]
        for wrong in [(1, 1, 1), (10, 0, 0), (0, 0, MOST)]:
            for put in (spider, fly):
                self.assertEqual(last(*before, put(*wrong), WAY), [25, 1, 0])
                self.assertEqual(last(*before, put(*wrong), over(0)), [25])


class Beginning(unittest.TestCase):
    def test_the_lengths_are_1(self):
        self.assertEqual(asked(spider(1, 1, 0), fly(0, 1, 1)), [[3], [3]])
        self.assertEqual(asked(spider(2, 0, 0), spider(0, 2, 0), fly(0, 0, 2)), [[-1], [-1], [-1]])

    def test_spider_and_fly_are_at_the_ends(self):
        self.assertEqual(asked(WAY), [[5, 2, 0, 3]])
        self.assertEqual(last(fly(0, 0, 0), WAY), [0, 1, 0])
        self.assertEqual(last(spider(1, 1, 1), WAY), [0, 1, 1])

    def test_it_is_as_after_begins_1_1_1(self):
        calls = [WAY, MANY, over(0, 3), over(0, 2), over(0, 2, 1)]
        self.assertEqual(asked(*calls), asked(begins(1, 1, 1), *calls)[1:])


if __name__ == "__main__":
    unittest.main()
