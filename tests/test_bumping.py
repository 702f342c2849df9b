import unittest

from stairtable.bumping import bumped, unbumped
from stairtable.errors import NoLine, NoTable, StairError
from tests.helper import HUGE, NO_TABLES, SHAPES, TABLES, all_tables, plainly_a_table


def plain_corners(lines):
    return [at for at in range(len(lines)) if at == len(lines) - 1 or len(lines[at]) > len(lines[at + 1])]


class Bumped(unittest.TestCase):
    def test_into_no_lines(self):
        self.assertEqual(bumped([], 5), ([[5]], 0))
        self.assertEqual(bumped([], -HUGE), ([[-HUGE]], 0))

    def test_a_pair_is_a_tuple(self):
        self.assertIs(type(bumped([[1]], 2)), tuple)

    def test_at_the_end_of_a_line(self):
        self.assertEqual(bumped([[1, 3], [2]], 4), ([[1, 3, 4], [2]], 0))
        self.assertEqual(bumped([[1, 3, 3], [4, 5]], 2), ([[1, 2, 3], [3, 5], [4]], 2))
        self.assertEqual(bumped([[1, 3, 3], [2]], 2), ([[1, 2, 3], [2, 3]], 1))

    def test_equal_numbers(self):
        self.assertEqual(bumped([[4, 4]], 4), ([[4, 4, 4]], 0))
        self.assertEqual(bumped([[1, 2, 2, 3]], 2), ([[1, 2, 2, 2], [3]], 1))
        self.assertEqual(bumped([[1, 2, 2, 3], [3]], 2), ([[1, 2, 2, 2], [3, 3]], 1))
        self.assertEqual(bumped([[2, 2, 2]], 1), ([[1, 2, 2], [2]], 1))

    def test_over_several_lines(self):
        self.assertEqual(bumped([[2, 5], [3, 6], [7]], 1), ([[1, 5], [2, 6], [3], [7]], 3))
        self.assertEqual(bumped([[1, 3], [2, 5], [4, 7]], 2), ([[1, 2], [2, 3], [4, 5], [7]], 3))
        self.assertEqual(bumped([[1, 3, 5], [2, 4], [6]], 3), ([[1, 3, 3], [2, 4, 5], [6]], 1))
        self.assertEqual(bumped([[1, 1, 3, 6], [2, 4, 7], [5]], 1), ([[1, 1, 1, 6], [2, 3, 7], [4], [5]], 3))

    def test_numbers_of_a_hundred_figures(self):
        self.assertEqual(bumped([[HUGE - 1, HUGE]], HUGE - 1), ([[HUGE - 1, HUGE - 1], [HUGE]], 1))
        self.assertEqual(bumped([[-HUGE, 0]], 1 - HUGE), ([[-HUGE, 1 - HUGE], [0]], 1))
        self.assertEqual(bumped([[1 - HUGE], [2 - HUGE]], -HUGE), ([[-HUGE], [1 - HUGE], [2 - HUGE]], 2))

    def test_what_comes_of_it_is_a_table_with_one_line_grown(self):
        for shape in SHAPES:
            for lines in all_tables(shape, range(0, 6, 2)):
                for number in range(-1, 6):
                    table, grown = bumped(lines, number)
                    self.assertTrue(plainly_a_table(table), (lines, number))
                    lengths = [len(line) for line in lines] + [0]
                    lengths[grown] += 1
                    self.assertEqual([len(line) for line in table], [length for length in lengths if length])

    def test_six_hundred_numbers(self):
        self.assertEqual(bumped([[5] * 600], 5), ([[5] * 601], 0))
        table, grown = bumped([[at] for at in range(600)], -1)
        self.assertEqual((table, grown), ([[at] for at in range(-1, 600)], 600))

    def test_what_is_no_table_is_refused(self):
        for lines in NO_TABLES:
            for taken in (NoTable, StairError, ValueError):
                with self.subTest(lines=lines, taken=taken), self.assertRaises(taken):
                    bumped(lines, 1)


class Unbumped(unittest.TestCase):
    def test_at_each_corner(self):
        lines = [[1, 1, 3, 6], [2, 4, 7], [5]]
        self.assertEqual(unbumped(lines, 0), ([[1, 1, 3], [2, 4, 7], [5]], 6))
        self.assertEqual(unbumped(lines, 1), ([[1, 1, 3, 7], [2, 4], [5]], 6))
        self.assertEqual(unbumped(lines, 2), ([[1, 1, 4, 6], [2, 5, 7]], 3))

    def test_the_last_that_is_less(self):
        self.assertEqual(unbumped([[1, 2, 2, 3], [3]], 1), ([[1, 2, 3, 3]], 2))
        self.assertEqual(unbumped([[2, 2, 2], [3, 3]], 1), ([[2, 2, 3], [3]], 2))
        self.assertEqual(unbumped([[1, 3], [2, 4]], 1), ([[1, 4], [2]], 3))

    def test_a_line_without_numbers_goes(self):
        self.assertEqual(unbumped([[5]], 0), ([], 5))
        self.assertEqual(unbumped([[1], [2], [3]], 2), ([[2], [3]], 1))

    def test_a_pair_is_a_tuple(self):
        self.assertIs(type(unbumped([[1]], 0)), tuple)

    def test_numbers_of_a_hundred_figures(self):
        self.assertEqual(unbumped([[HUGE - 1, HUGE - 1], [HUGE]], 1), ([[HUGE - 1, HUGE]], HUGE - 1))
        self.assertEqual(unbumped([[-HUGE], [1 - HUGE]], 1), ([[1 - HUGE]], -HUGE))

    def test_a_line_that_is_no_corner_is_refused(self):
        for lines, last in [([[1, 1], [2, 2]], 0), ([[1], [2], [3]], 0), ([[1], [2], [3]], 1),
                            ([[1, 1, 1], [2, 2], [3, 3]], 1)]:
            for taken in (NoLine, StairError, ValueError):
                with self.subTest(lines=lines, last=last, taken=taken), self.assertRaises(taken):
                    unbumped(lines, last)

    def test_a_line_that_is_not_there_is_refused(self):
        for lines in TABLES:
            for last in (-1, -2, -len(lines) - 1, len(lines), len(lines) + 1, 600, HUGE, -HUGE):
                with self.subTest(lines=lines, last=last), self.assertRaises(NoLine):
                    unbumped(lines, last)

    def test_the_table_is_asked_ahead_of_the_line(self):
        for lines in NO_TABLES:
            for last in (-1, 0, 1, len(lines), HUGE):
                for taken in (NoTable, StairError, ValueError):
                    with self.subTest(lines=lines, last=last, taken=taken), self.assertRaises(taken):
                        unbumped(lines, last)


class ThereAndBack(unittest.TestCase):
    def test_unbumped_takes_back_what_was_bumped(self):
        for shape in SHAPES:
            for lines in all_tables(shape, range(0, 6, 2)):
                for number in range(-1, 6):
                    table, grown = bumped(lines, number)
                    self.assertEqual(unbumped(table, grown), (lines, number))

    def test_bumped_puts_back_what_was_unbumped(self):
        for shape in SHAPES:
            for lines in all_tables(shape, range(4)):
                for last in range(-1, len(lines) + 1):
                    if last in plain_corners(lines):
                        table, number = unbumped(lines, last)
                        self.assertTrue(plainly_a_table(table))
                        self.assertEqual(bumped(table, number), (lines, last))
                    else:
                        with self.assertRaises(NoLine):
                            unbumped(lines, last)

    def test_great_tables(self):
        tables = TABLES + [[[at + place for place in range(24)] for at in range(25)],
                           [list(range(at * 100, at * 100 + 30 - at)) for at in range(25)]]
        for lines in tables:
            for number in (-HUGE, -4, 0, 2, 3, 17, 108, HUGE):
                table, grown = bumped(lines, number)
                self.assertEqual(unbumped(table, grown), (lines, number))


if __name__ == "__main__":
    unittest.main()
