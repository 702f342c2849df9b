import itertools
import unittest

from stairtable.errors import NoMarks, NoPair, NoTable, StairError
from stairtable.pairs import both, numbers_of, same_table
from stairtable.stairs import columns, is_marked, is_table, read_out
from tests.helper import (HUGE, NO_TABLES, SHAPES, TABLES, TABLES_NO_MARKS, all_marks, all_tables,
                          long_rows, plainly_both, scattered, short_rows)


class Both(unittest.TestCase):
    def test_small_rows(self):
        for numbers, told in [
            ([], ([], [])),
            ([5], ([[5]], [[0]])),
            ([-HUGE], ([[-HUGE]], [[0]])),
            ([1, 2, 3], ([[1, 2, 3]], [[0, 1, 2]])),
            ([3, 2, 1], ([[1], [2], [3]], [[0], [1], [2]])),
            ([4, 4, 4], ([[4, 4, 4]], [[0, 1, 2]])),
            ([2, 1, 2, 1], ([[1, 1], [2, 2]], [[0, 2], [1, 3]])),
            ([3, 1, 2], ([[1, 2], [3]], [[0, 2], [1]])),
            ([1, 3, 2], ([[1, 2], [3]], [[0, 1], [2]])),
            ([4, 1, 3, 1, 2], ([[1, 1, 2], [3], [4]], [[0, 2, 4], [1], [3]])),
        ]:
            with self.subTest(numbers=numbers):
                self.assertEqual(both(numbers), told)

    def test_a_pair_is_a_tuple_of_lists(self):
        for numbers in ([], [3, 1, 2]):
            told = both(numbers)
            self.assertIs(type(told), tuple)
            self.assertIs(type(told[0]), list)
            self.assertIs(type(told[1]), list)

    def test_line_by_line(self):
        for numbers in itertools.chain(short_rows(), long_rows()):
            self.assertEqual(both(numbers), plainly_both(numbers))

    def test_a_table_and_marks_of_one_shape(self):
        for numbers in long_rows():
            table, marks = both(numbers)
            self.assertTrue(is_table(table))
            self.assertTrue(is_marked(marks))
            self.assertEqual([len(line) for line in table], [len(line) for line in marks])

    def test_read_out_becomes_the_same_table(self):
        for shape in SHAPES:
            for lines in all_tables(shape, range(4)):
                self.assertEqual(both(read_out(lines))[0], lines)


class NumbersOf(unittest.TestCase):
    def test_small_pairs(self):
        self.assertEqual(numbers_of([], []), [])
        self.assertEqual(numbers_of([[7]], [[0]]), [7])
        self.assertEqual(numbers_of([[1, 2], [3]], [[0, 2], [1]]), [3, 1, 2])
        self.assertEqual(numbers_of([[1, 2], [3]], [[0, 1], [2]]), [1, 3, 2])
        self.assertEqual(numbers_of([[1, 1, 3], [2, 4]], [[0, 1, 2], [3, 4]]), [1, 2, 4, 1, 3])

    def test_rows_there_and_back(self):
        for numbers in itertools.chain(short_rows(), long_rows()):
            table, marks = both(numbers)
            told = numbers_of(table, marks)
            self.assertIs(type(told), list)
            self.assertEqual(told, numbers)

    def test_pairs_there_and_back(self):
        for shape in SHAPES:
            tables = all_tables(shape, range(4))
            for marks in all_marks(shape):
                for lines in tables:
                    self.assertEqual(both(numbers_of(lines, marks)), (lines, marks))

    def test_great_pairs_there_and_back(self):
        upright = [[at + 20 * place for place in range(20)] for at in range(20)]
        level = [[20 * at + place for place in range(20)] for at in range(20)]
        flat = [[at] * 20 for at in range(20)]
        huge = [[HUGE - 20 + at] * 20 for at in range(20)]
        for lines in (upright, level, flat, huge):
            for marks in (upright, level):
                self.assertEqual(both(numbers_of(lines, marks)), (lines, marks))

    def test_six_hundred_numbers(self):
        numbers = scattered(600, 777, 100)
        self.assertEqual(numbers_of(*both(numbers)), numbers)


class Refusals(unittest.TestCase):
    def refused(self, error, lines, marks):
        for taken in (error, StairError, ValueError):
            with self.subTest(lines=lines, marks=marks, taken=taken), self.assertRaises(taken):
                numbers_of(lines, marks)

    def test_no_table(self):
        for lines in NO_TABLES:
            self.refused(NoTable, lines, [[0]])

    def test_no_table_ahead_of_all(self):
        for lines in NO_TABLES:
            for marks in ([], lines, [[0, 1], [2]], [[1]], [[]], [[0, 0]]):
                self.refused(NoTable, lines, marks)

    def test_no_table_of_the_shape_of_the_marks(self):
        self.refused(NoTable, [[1, 2], [1]], [[0, 1], [2]])
        self.refused(NoTable, [[2, 1]], [[0, 1]])

    def test_no_marks(self):
        for marks in TABLES_NO_MARKS + NO_TABLES:
            self.refused(NoMarks, marks if is_table(marks) else [[1]], marks)

    def test_no_marks_of_the_shape_of_the_table(self):
        self.refused(NoMarks, [[1, 1]], [[1, 0]])
        self.refused(NoMarks, [[1, 1], [2]], [[0, 1], [0]])

    def test_no_marks_ahead_of_no_pair(self):
        for marks in TABLES_NO_MARKS + NO_TABLES:
            self.refused(NoMarks, [[1, 1, 1, 1, 1, 1, 1]], marks)
            self.refused(NoMarks, [], marks)

    def test_no_pair(self):
        for lines, marks in [
            ([], [[0]]), ([[1]], []), ([[1, 1]], [[0], [1]]), ([[1], [2]], [[0, 1]]),
            ([[1, 1], [2]], [[0, 1, 2]]), ([[1, 1], [2]], [[0, 1], [2, 3]]), ([[1, 1], [2, 2]], [[0, 1], [2]]),
            ([[1, 1, 1], [2]], [[0, 1], [2, 3]]),
        ]:
            self.refused(NoPair, lines, marks)

    def test_no_pair_for_each_other_shape(self):
        for lines in TABLES:
            for shape in SHAPES:
                if shape != [len(line) for line in lines]:
                    self.refused(NoPair, lines, all_marks(shape)[0])


class TurnedAbout(unittest.TestCase):
    def test_different_numbers(self):
        for length in range(7):
            for row in itertools.permutations(range(length)):
                numbers = list(row)
                self.assertEqual(both(numbers[::-1])[0], columns(both(numbers)[0]))

    def test_long_rows_of_different_numbers(self):
        rows = [row for row in long_rows() if len(set(row)) == len(row)]
        self.assertGreater(len(rows), 3)
        for numbers in rows:
            self.assertEqual(both(numbers[::-1])[0], columns(both(numbers)[0]))


class SameTable(unittest.TestCase):
    def test_the_same(self):
        for one, other in [
            ([], []), ([4], [4]), ([2, 1, 3], [2, 3, 1]), ([1, 3, 2], [3, 1, 2]), ([2, 1, 1], [2, 1, 1]),
            ([1, 2, 1], [2, 1, 1]), ([HUGE, -HUGE, 0], [-HUGE, HUGE, 0]),
        ]:
            with self.subTest(one=one, other=other):
                self.assertIs(same_table(one, other), True)
                self.assertIs(same_table(other, one), True)

    def test_not_the_same(self):
        for one, other in [
            ([1], [2]), ([1, 2], [2, 1]), ([1, 3, 2], [2, 1, 3]), ([1, 1], [1, 2]), ([HUGE], [-HUGE]),
            ([2, 1, 2], [1, 2, 2]),
        ]:
            with self.subTest(one=one, other=other):
                self.assertIs(same_table(one, other), False)
                self.assertIs(same_table(other, one), False)

    def test_different_length(self):
        for one, other in [([], [1]), ([1], [1, 1]), ([2, 1], [2, 1, 1]), ([1, 2, 3], [1, 2])]:
            with self.subTest(one=one, other=other):
                self.assertIs(same_table(one, other), False)
                self.assertIs(same_table(other, one), False)

    def test_all_small_rows(self):
        rows = [list(row) for length in range(5) for row in itertools.product(range(3), repeat=length)]
        tables = [plainly_both(row)[0] for row in rows]
        for one, table in zip(rows, tables):
            for other, other_table in zip(rows, tables):
                self.assertIs(same_table(one, other), table == other_table)

    def test_a_row_and_its_table_read_out(self):
        for numbers in long_rows():
            self.assertIs(same_table(numbers, read_out(both(numbers)[0])), True)


if __name__ == "__main__":
    unittest.main()
