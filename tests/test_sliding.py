import itertools
import unittest

from stairtable.errors import NoMarks, StairError
from stairtable.pairs import both
from stairtable.sliding import emptied, slid
from tests.helper import (HUGE, NO_TABLES, SHAPES, TABLES_NO_MARKS, all_marks, long_rows,
                          plainly_a_table, plainly_both, scattered, short_rows)


def lengths(lines):
    return [len(line) for line in lines]


def plainly_marked(lines):
    numbers = sorted(itertools.chain.from_iterable(lines))
    return plainly_a_table(lines) and numbers == list(range(len(numbers)))


def plainly_slid(marks):
    """Point 13, with each number kept under its line and place."""
    held = {(at, place): mark for at, line in enumerate(marks) for place, mark in enumerate(line)}
    hole = (0, 0)
    del held[hole]
    while True:
        nearby = [spot for spot in ((hole[0], hole[1] + 1), (hole[0] + 1, hole[1])) if spot in held]
        if not nearby:
            break
        lesser = min(nearby, key=held.get)
        held[hole] = held.pop(lesser)
        hole = lesser
    lines = [[held[at, place] - 1 for place in range(len(line)) if (at, place) in held]
             for at, line in enumerate(marks)]
    return ([line for line in lines if line], hole[0])


def plainly_emptied(marks):
    """Point 14: the mark of each sliding is put into the place that went."""
    told = [[None] * len(line) for line in marks]
    for mark in range(sum(lengths(marks)) - 1, -1, -1):
        marks, shorter = plainly_slid(marks)
        told[shorter][len(marks[shorter]) if shorter < len(marks) else 0] = mark
    return told


def turned_and_negated(numbers):
    return [-number for number in numbers[::-1]]


GREAT = [
    [list(range(600))],
    [[mark] for mark in range(600)],
    [[at + 24 * place for place in range(25)] for at in range(24)],
    [[25 * at + place for place in range(25)] for at in range(24)],
    [list(range(300)), list(range(300, 600))],
    [[0] + list(range(300, 599))] + [[mark] for mark in range(1, 300)],
    plainly_both(scattered(600, 31, 1000))[1],
]


class Slid(unittest.TestCase):
    def test_no_lines(self):
        told = slid([])
        self.assertIs(type(told), tuple)
        self.assertEqual(told, ([], None))

    def test_a_pair_of_lists_and_a_line(self):
        told = slid([[0, 1], [2]])
        self.assertIs(type(told), tuple)
        self.assertIs(type(told[0]), list)
        self.assertIs(type(told[1]), int)

    def test_small_marks(self):
        for marks, told in [
            ([[0]], ([], 0)),
            ([[0, 1, 2]], ([[0, 1]], 0)),
            ([[0], [1], [2]], ([[0], [1]], 2)),
            ([[0, 1], [2]], ([[0], [1]], 0)),
            ([[0, 2], [1]], ([[0, 1]], 1)),
            ([[0, 1], [2, 3]], ([[0, 2], [1]], 1)),
            ([[0, 2], [1, 3]], ([[0, 1], [2]], 1)),
            ([[0, 1, 4], [2, 3]], ([[0, 2, 3], [1]], 1)),
            ([[0, 1, 3], [2, 4]], ([[0, 2], [1, 3]], 0)),
            ([[0, 2, 3], [1, 4], [5]], ([[0, 1, 2], [3], [4]], 1)),
            ([[0, 2, 5], [1, 4], [3]], ([[0, 1, 4], [2, 3]], 2)),
        ]:
            with self.subTest(marks=marks):
                self.assertEqual(slid(marks), told)

    def test_all_small_marks(self):
        for shape in SHAPES[1:] + [[3, 2, 1], [3, 3], [2, 2, 2], [4, 2], [3, 1, 1, 1]]:
            for marks in all_marks(shape):
                self.assertEqual(slid(marks), plainly_slid(marks))

    def test_what_comes_of_it_are_marks_with_one_line_shorter(self):
        for marks in GREAT + [both(numbers)[1] for numbers in long_rows()]:
            told, shorter = slid(marks)
            self.assertTrue(plainly_marked(told))
            left = lengths(marks)
            left[shorter] -= 1
            self.assertEqual(lengths(told), [length for length in left if length])
            self.assertEqual((told, shorter), plainly_slid(marks))

    def test_the_marks_of_a_row_without_its_first_number(self):
        for numbers in itertools.chain(short_rows(), long_rows()):
            if numbers:
                self.assertEqual(slid(both(numbers)[1])[0], both(numbers[1:])[1])

    def test_slid_until_nothing_is_left(self):
        for numbers in (scattered(60, 3, 9), scattered(60, 4, 1000)):
            while numbers:
                marks = slid(both(numbers)[1])[0]
                numbers = numbers[1:]
                self.assertEqual(marks, both(numbers)[1])
            self.assertEqual(marks, [])


class Emptied(unittest.TestCase):
    def test_small_marks(self):
        for marks, told in [
            ([], []),
            ([[0]], [[0]]),
            ([[0, 1, 2]], [[0, 1, 2]]),
            ([[0], [1], [2]], [[0], [1], [2]]),
            ([[0, 1], [2]], [[0, 2], [1]]),
            ([[0, 2], [1]], [[0, 1], [2]]),
            ([[0, 1], [2, 3]], [[0, 1], [2, 3]]),
            ([[0, 2], [1, 3]], [[0, 2], [1, 3]]),
            ([[0, 1, 2], [3]], [[0, 2, 3], [1]]),
            ([[0, 1, 3], [2]], [[0, 1, 3], [2]]),
        ]:
            with self.subTest(marks=marks):
                self.assertEqual(emptied(marks), told)

    def test_by_sliding_again_and_again(self):
        for shape in SHAPES + [[3, 2, 1], [3, 3], [2, 2, 2], [4, 2], [3, 1, 1, 1]]:
            for marks in all_marks(shape):
                told = emptied(marks)
                self.assertIs(type(told), list)
                self.assertEqual(told, plainly_emptied(marks))

    def test_marks_of_the_same_shape(self):
        for marks in GREAT + [both(numbers)[1] for numbers in long_rows()]:
            told = emptied(marks)
            self.assertTrue(plainly_marked(told))
            self.assertEqual(lengths(told), lengths(marks))

    def test_twice_gives_the_marks_as_they_were(self):
        small = [marks for shape in SHAPES for marks in all_marks(shape)]
        for marks in small + GREAT + [both(numbers)[1] for numbers in long_rows()]:
            self.assertEqual(emptied(emptied(marks)), marks)

    def test_the_marks_of_the_row_turned_about_and_negated(self):
        for numbers in itertools.chain(short_rows(), long_rows()):
            self.assertEqual(emptied(both(numbers)[1]), both(turned_and_negated(numbers))[1])


class Refusals(unittest.TestCase):
    def refused(self, marks):
        for function in (slid, emptied):
            for taken in (NoMarks, StairError, ValueError):
                with self.subTest(function=function, marks=marks, taken=taken), self.assertRaises(taken):
                    function(marks)

    def test_no_stair_table(self):
        for marks in NO_TABLES:
            self.refused(marks)
        for marks in ([[]], [[0], []], [[], [0]], [[1, 0]], [[1], [0]], [[0], [1, 2]], [[0, 2], [3, 1]]):
            self.refused(marks)

    def test_a_number_missing_or_twice(self):
        for marks in TABLES_NO_MARKS:
            self.refused(marks)
        for marks in ([[0, 1, 3]], [[0, 0]], [[0, 1, 1]], [[0, 1], [1]], [[0, 1], [2, 4]], [[0, 1, 2], [2]]):
            self.refused(marks)

    def test_beginning_with_one(self):
        for marks in ([[1]], [[1, 2]], [[1], [2]], [[1, 2, 4], [3, 5]]):
            self.refused(marks)

    def test_numbers_below_nought_and_of_a_hundred_figures(self):
        for marks in ([[-1]], [[-1, 0]], [[-1], [0]], [[0, HUGE]], [[-HUGE, 0, 1]]):
            self.refused(marks)

    def test_great_lines_with_one_number_too_great(self):
        self.refused([list(range(599)) + [600]])
        self.refused([[mark] for mark in range(599)] + [[600]])


if __name__ == "__main__":
    unittest.main()
