"""What the document promises over the whole program: lines in which calls of all kinds are mixed."""

import unittest
from random import Random

from spiderfly.box import answers
from tests import reference
from tests.lines import (
    FACES, FARTHEST, MANY, MOST, STATE, STRAIGHT, WAY, asked, begins, fly, over, placed, spider, within,
)

ASKING = [WAY, over(0, 3), MANY, STRAIGHT, FARTHEST, within(9), FACES, STATE]


def some_place(choice, lengths):
    """Mostly a point on the box, at times one within it or outside."""
    point = [choice.randint(0, length) for length in lengths]
    if choice.random() < 0.8:
        axis = choice.randrange(3)
        point[axis] = choice.choice([0, lengths[axis]])
    elif choice.random() < 0.5:
        point[choice.randrange(3)] = choice.choice([lengths[0] + 1, 41, MOST])
    return point


def some_lengths(choice):
    longest = choice.choice([2, 3, 4, 4, 5, 40])
    lengths = [choice.randint(1, longest) for axis in range(3)]
    if choice.random() < 0.2:
        lengths[choice.randrange(3)] = choice.choice([0, 5, 41, MOST])
    return lengths


def some_faces(choice):
    if choice.random() < 0.7:
        return choice.choice(reference.ROWS)
    return [choice.choice([0, 1, 2, 3, 4, 5, 6, MOST]) for face in range(choice.randint(0, 8))]


def some_call(choice, number, lengths):
    if number == 0:
        return begins(*some_lengths(choice))
    if number in (1, 2):
        return [number, *some_place(choice, lengths)]
    if number == 4:
        return over(*some_faces(choice))
    if number == 8:
        return within(choice.choice([0, 1, 2, 4, 5, 9, 16, 25, 40, MOST]))
    return [number]


def some_calls(choice, count):
    """Each kind of call comes once in eleven of them."""
    line = reference.Line()
    calls, numbers = [], []
    while len(calls) < count:
        numbers = numbers or choice.sample(range(11), 11)
        calls.append(some_call(choice, numbers.pop(), line.lengths))
        if calls[-1][0] == 0:
            line.answer(calls[-1])
    return calls


def flat(lists):
    return [number for each in lists for number in each]


class Mixed(unittest.TestCase):
    def test_lines_of_all_calls(self):
        for seed in range(20):
            calls = some_calls(Random(seed), 22)
            self.assertEqual({call[0] for call in calls}, set(range(11)))
            self.assertEqual(asked(*calls), reference.line_answers(calls), calls)

    def test_a_line_of_eighty_calls(self):
        calls = some_calls(Random(100), 80)
        self.assertEqual(asked(*calls), reference.line_answers(calls), calls)

    def test_all_calls_once_written_out(self):
        calls = [0, 2, 2, 4, 1, 0, 0, 2, 2, 2, 1, 0, 3, 4, 2, 2, 1, 5, 6, 7, 8, 20, 8, 19, 9, 10]
        told = [1, 0, 1, 2, 1, 2, 4, 13, 2, 2, 1, 1, 13, 3, 36, 1, 8, 1, 9,
                7, 20, 3, 2, 2, 0, 1, 2, 1, 42, 1, 40, 7, 2, 2, 0, 2, 2, 1, 4,
                13, 0, 3, 2, 2, 4, 3, 0, 0, 2, 3, 2, 1, 0]
        self.assertEqual(answers(calls), told)

    def test_refusals_of_each_kind_stand_alone(self):
        calls = [begins(4, 4, 5), spider(4, 4, 6), fly(1, 1, 1), over(), over(1), FARTHEST, within(0), over(0, 3)]
        self.assertEqual(answers(flat(calls)), [1, 0, 1, -1, 1, -1, 1, -1, 1, -4, 1, -9, 1, -9, 1, 89])


class Unchanged(unittest.TestCase):
    def test_asking_changes_nothing(self):
        for before in [[], placed((2, 3, 4), (0, 3, 1), (1, 0, 4)), placed((4, 5, 4), (0, 3, 1), (1, 0, 4))]:
            expected = asked(*before, *ASKING)[len(before):]
            for between in ASKING:
                told = asked(*before, between, between, *ASKING)[len(before) + 2:]
                self.assertEqual(told, expected, (before, between))

    def test_what_comes_later_is_as_without_asking(self):
        later = [spider(2, 1, 1), STATE, fly(0, 0, 0), STATE, begins(3, 3, 3), STATE]
        for between in ASKING:
            calls = placed((2, 3, 4), (0, 3, 1), (1, 0, 4))
            self.assertEqual(asked(*calls, between, *later)[4:], asked(*calls, *later)[3:], between)


class Eighty(unittest.TestCase):
    def test_farthest_at_a_corner(self):
        told = asked(begins(4, 4, 4), *[FARTHEST] * 79)
        self.assertEqual(told, [[0]] + [[80, 3, 4, 4, 4, 1, 1]] * 79)

    def test_within_for_each_square(self):
        told = asked(begins(4, 4, 4), *[within(square) for square in range(79)])
        squares = reference.squares_from((4, 4, 4), (0, 0, 0)).values()
        self.assertEqual(told[1:], [[sum(square <= most for square in squares)] for most in range(79)])

    def test_each_other_call(self):
        for call in ASKING:
            self.assertEqual(asked(*[call] * 80), asked(call) * 80)


class Kept(unittest.TestCase):
    def test_what_is_handed_in_stays_as_it_was(self):
        for seed in range(200, 210):
            calls = flat(some_calls(Random(seed), 22))
            before = list(calls)
            answers(calls)
            self.assertEqual(calls, before)

    def test_a_second_time_starts_anew(self):
        for seed in range(300, 310):
            calls = flat(some_calls(Random(seed), 22))
            self.assertEqual(answers(calls), answers(calls))
            self.assertEqual(answers([10]), [13, 0, 3, 1, 1, 1, 3, 0, 0, 0, 3, 1, 1, 1])

    def test_what_was_given_back_may_be_changed(self):
        calls = flat([begins(2, 2, 4), FARTHEST, FACES, STATE])
        expected = answers(calls)
        told = answers(calls)
        told[:] = [MOST] * len(told)
        self.assertEqual(answers(calls), expected)


if __name__ == "__main__":
    unittest.main()
