import itertools
import unittest

from stairtable.errors import NoShape, NoTable, StairError
from stairtable.stairs import columns, corners, is_marked, is_table, read_out
from tests.helper import (HUGE, NO_TABLES, SHAPES, TABLES, TABLES_NO_MARKS, all_marks, all_tables,
                          fillings, plainly_a_table)


class IsTable(unittest.TestCase):
    def test_no_lines(self):
        self.assertIs(is_table([]), True)

    def test_one_line(self):
        self.assertIs(is_table([[3]]), True)
        self.assertIs(is_table([[1, 2, 3]]), True)
        self.assertIs(is_table([[-3, 0, 0, 8]]), True)

    def test_empty_line(self):
        self.assertIs(is_table([[]]), False)
        self.assertIs(is_table([[1], []]), False)
        self.assertIs(is_table([[1, 2], [3], []]), False)
        self.assertIs(is_table([[], [1]]), False)

    def test_lines_that_get_longer(self):
        self.assertIs(is_table([[1], [2, 3]]), False)
        self.assertIs(is_table([[1, 1], [2], [3, 3]]), False)

    def test_less_than_the_one_ahead(self):
        self.assertIs(is_table([[2, 1]]), False)
        self.assertIs(is_table([[1, 1, 0]]), False)
        self.assertIs(is_table([[1, 1], [3, 2]]), False)

    def test_not_greater_than_the_one_above(self):
        self.assertIs(is_table([[1], [1]]), False)
        self.assertIs(is_table([[1, 5], [2, 5]]), False)
        self.assertIs(is_table([[1, 5], [2, 4]]), False)
        self.assertIs(is_table([[1], [2], [2]]), False)
        self.assertIs(is_table([[1], [0]]), False)

    def test_equal_numbers_beside_each_other(self):
        self.assertIs(is_table([[1, 1]]), True)
        self.assertIs(is_table([[1, 1, 1], [2, 2, 2], [3]]), True)

    def test_the_examples_of_the_document(self):
        self.assertIs(is_table([[1, 1, 3], [2, 4]]), True)
        self.assertIs(is_table([[1, 2], [1]]), False)

    def test_tables_and_others(self):
        for lines in TABLES:
            with self.subTest(lines=lines):
                self.assertIs(is_table(lines), True)
        for lines in NO_TABLES:
            with self.subTest(lines=lines):
                self.assertIs(is_table(lines), False)

    def test_all_small_lines(self):
        for count in range(4):
            for lengths in itertools.product(range(4), repeat=count):
                if sum(lengths) > 5:
                    continue
                for lines in fillings(lengths, range(3)):
                    self.assertIs(is_table(lines), plainly_a_table(lines), lines)

    def test_six_hundred_numbers(self):
        self.assertIs(is_table([[HUGE] * 600]), True)
        self.assertIs(is_table([[HUGE] * 599 + [HUGE - 1]]), False)
        self.assertIs(is_table([[at - HUGE] for at in range(600)]), True)
        self.assertIs(is_table([[at - HUGE] for at in range(599)] + [[598 - HUGE]]), False)


class IsMarked(unittest.TestCase):
    def test_marks(self):
        for lines in [[], [[0]], [[0, 1]], [[0], [1]], [[0, 1], [2]], [[0, 2], [1]], [[0, 2, 3], [1, 4]]]:
            with self.subTest(lines=lines):
                self.assertIs(is_marked(lines), True)

    def test_a_number_missing(self):
        for lines in [[[0, 2]], [[0, 1], [3]], [[0], [2]]]:
            with self.subTest(lines=lines):
                self.assertIs(is_marked(lines), False)

    def test_a_number_twice(self):
        for lines in [[[0, 0]], [[0, 1], [1]], [[0, 1, 1], [2, 4]], [[0, 1, 2], [2]]]:
            with self.subTest(lines=lines):
                self.assertIs(is_marked(lines), False)

    def test_beginning_with_one_or_below_nought(self):
        for lines in [[[1]], [[1, 2], [3]], [[-1]], [[-1, 0]], [[-1, 0], [1]]]:
            with self.subTest(lines=lines):
                self.assertIs(is_marked(lines), False)

    def test_other_tables(self):
        for lines in TABLES_NO_MARKS:
            with self.subTest(lines=lines):
                self.assertIs(is_table(lines), True)
                self.assertIs(is_marked(lines), False)

    def test_what_is_no_table(self):
        for lines in NO_TABLES + [[[1, 0]], [[1], [0]], [[0], [1, 2]], [[0], []], [[0, 3], [1, 2]]]:
            with self.subTest(lines=lines):
                self.assertIs(is_marked(lines), False)

    def test_all_marks_of_small_shapes(self):
        for shape in SHAPES:
            if sum(shape) > 4:
                continue
            marked = [lines for lines in fillings(shape, range(-1, 5)) if is_marked(lines)]
            self.assertEqual(marked, all_marks(shape))

    def test_six_hundred_marks(self):
        self.assertIs(is_marked([list(range(600))]), True)
        self.assertIs(is_marked([list(range(300)), list(range(300, 600))]), True)
        self.assertIs(is_marked([list(range(300)), list(range(301, 601))]), False)


class ReadOut(unittest.TestCase):
    def test_last_line_first(self):
        self.assertEqual(read_out([]), [])
        self.assertEqual(read_out([[4]]), [4])
        self.assertEqual(read_out([[1, 1, 3], [2, 4]]), [2, 4, 1, 1, 3])
        self.assertEqual(read_out([[1], [2], [3]]), [3, 2, 1])
        self.assertEqual(read_out([[1, 2, 2, 5], [3, 3], [4]]), [4, 3, 3, 1, 2, 2, 5])
        self.assertEqual(read_out([[-HUGE, HUGE], [HUGE]]), [HUGE, -HUGE, HUGE])

    def test_what_is_no_table_is_refused(self):
        for lines in NO_TABLES:
            for taken in (NoTable, StairError, ValueError):
                with self.subTest(lines=lines, taken=taken), self.assertRaises(taken):
                    read_out(lines)


class Columns(unittest.TestCase):
    def test_columns(self):
        self.assertEqual(columns([]), [])
        self.assertEqual(columns([[4]]), [[4]])
        self.assertEqual(columns([[1, 1, 3]]), [[1], [1], [3]])
        self.assertEqual(columns([[1], [2], [3]]), [[1, 2, 3]])
        self.assertEqual(columns([[1, 1, 3], [2, 4]]), [[1, 2], [1, 4], [3]])
        self.assertEqual(columns([[1, 2, 2, 5], [3, 3], [4]]), [[1, 3, 4], [2, 3], [2], [5]])
        self.assertEqual(columns([[-HUGE, HUGE - 1], [HUGE - 1, HUGE]]), [[-HUGE, HUGE - 1], [HUGE - 1, HUGE]])

    def test_columns_of_columns(self):
        for shape in SHAPES:
            for lines in all_tables(shape, range(3)):
                self.assertEqual(columns(columns(lines)), lines)

    def test_nothing_is_refused(self):
        for lines in NO_TABLES:
            with self.subTest(lines=lines):
                told = columns(lines)
                self.assertEqual(sorted(sum(told, [])), sorted(sum(lines, [])))
        self.assertEqual(columns([[]]), [])
        self.assertEqual(columns([[1], [2, 3]]), [[1, 2], [3]])
        self.assertEqual(columns([[2, 1], [1]]), [[2, 1], [1]])


class Corners(unittest.TestCase):
    def test_corners(self):
        for shape, told in [
            ([], []), ([1], [0]), ([5], [0]), ([2, 2], [1]), ([2, 1], [0, 1]), ([1, 1, 1], [2]),
            ([3, 3, 1], [1, 2]), ([3, 2, 1], [0, 1, 2]), ([4, 4, 2, 2, 2, 1], [1, 4, 5]),
            ([600], [0]), ([300, 300], [1]), ([1] * 600, [599]),
        ]:
            with self.subTest(shape=shape):
                self.assertEqual(corners(shape), told)

    def test_what_is_no_shape_is_refused(self):
        for shape in [[0], [2, 0], [0, 0], [-1], [3, -1], [-1, -2], [1, 2], [3, 1, 2], [2, 2, 3], [0, 1], [HUGE, -HUGE]]:
            for taken in (NoShape, StairError, ValueError):
                with self.subTest(shape=shape, taken=taken), self.assertRaises(taken):
                    corners(shape)


if __name__ == "__main__":
    unittest.main()
