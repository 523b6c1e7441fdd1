"""The interface: spiderfly.box.answers."""

import unittest

from spiderfly.box import answers


class Told(unittest.TestCase):
    def test_each_call(self):
        self.assertEqual(answers([0, 2, 3, 6]), [1, 0])
        self.assertEqual(answers([1, 0, 1, 0]), [1, 3])
        self.assertEqual(answers([2, 0, 1, 1]), [1, 3])
        self.assertEqual(answers([3]), [4, 5, 2, 0, 3])
        self.assertEqual(answers([4, 2, 0, 3]), [1, 5])
        self.assertEqual(answers([5]), [3, 180, 1, 150])

    def test_a_refusal_stands_alone(self):
        self.assertEqual(answers([0, 2, 3, 41]), [1, -1])
        self.assertEqual(answers([1, 0, 1, 2]), [1, -1])
        self.assertEqual(answers([2, 0, 1, 2]), [1, -1])
        self.assertEqual(answers([4, 0]), [1, -1])
        self.assertEqual(answers([4, 1, 0]), [1, -4])
        self.assertEqual(answers([0, 3, 3, 3, 1, 0, 1, 1, 2, 1, 0, 1, 4, 3, 0, 5, 2])[6:], [1, -6])

    def test_several_calls_in_one_list(self):
        calls = [3, 0, 30, 12, 12, 4, 0, 1, 0, 6, 11, 4, 3, 3, 3, 3, 2, 30, 6, 1, 3, 4, 5, 0, 5, 2, 4, 1, 5]
        told = [4, 5, 2, 0, 3, 1, 0, 1, -1, 1, 1, 1, -1, 1, 1, 7, 1600, 5, 0, 5, 2, 4, 1, 1, 1600, 3, 16, 1, 2]
        self.assertEqual(answers(calls), told)

    def test_numbers_handed_over_are_not_taken_for_calls(self):
        self.assertEqual(answers([0, 4, 4, 4, 1, 4, 4, 4, 2, 3, 3, 4, 3]), [1, 0, 1, 3, 1, 1, 3, 2, 1, 5])
        self.assertEqual(answers([4, 4, 3, 3, 5, 5, 5]), [1, -1, 3, 180, 1, 150])

    def test_eighty_calls(self):
        self.assertEqual(answers([3] * 80), [4, 5, 2, 0, 3] * 80)
        self.assertEqual(answers([5] * 80), [3, 180, 1, 150] * 80)
        self.assertEqual(answers(([4, 60] + [0] * 60) * 80), [1, -1] * 80)

    def test_whole_numbers_alone(self):
        calls = [0, 3, 3, 3, 3, 5, 1, 0, 1, 1, 2, 1, 0, 1, 4, 2, 0, 2, 4, 3, 0, 5, 2, 0, 0, 0, 0, 1, 9, 9, 9]
        told = answers(calls)
        self.assertIs(type(told), list)
        self.assertEqual({type(number) for number in told}, {int})


class Kept(unittest.TestCase):
    def test_what_is_handed_in_stays_as_it_was(self):
        calls = [0, 5, 6, 7, 1, 0, 1, 2, 2, 5, 6, 6, 3, 4, 3, 0, 3, 1, 5, 0, 0, 0, 0, 1, 9, 9, 9, 4, 2, 7, 7]
        before = list(calls)
        answers(calls)
        self.assertEqual(calls, before)

    def test_the_answer_is_a_list_of_its_own(self):
        calls = [3]
        told = answers(calls)
        told.append(1)
        self.assertEqual(calls, [3])
        self.assertEqual(answers(calls), [4, 5, 2, 0, 3])

    def test_each_time_starts_anew(self):
        alone = answers([3, 5, 4, 2, 0, 3])
        answers([0, 9, 8, 7, 1, 0, 4, 4, 2, 9, 4, 4, 3])
        self.assertEqual(answers([3, 5, 4, 2, 0, 3]), alone)
        self.assertEqual(answers([1, 0, 4, 4]), [1, -1])

    def test_the_same_calls_the_same_answers(self):
        calls = [0, 9, 8, 7, 1, 0, 4, 4, 2, 9, 4, 4, 3, 5]
        self.assertEqual(answers(calls), answers(list(calls)))


if __name__ == "__main__":
    unittest.main()
