import functools
import math
import unittest

from stairtable.counting import how_many_marks
from stairtable.errors import NoShape, StairError
from tests.helper import HUGE, SHAPES, all_marks


@functools.cache
def counted_by_corners(shape):
    """The greatest mark stands at a corner; the others are marks of what is left."""
    if not shape:
        return 1
    found = 0
    for at, length in enumerate(shape):
        if at == len(shape) - 1 or length > shape[at + 1]:
            left = shape[:at] + (length - 1,) + shape[at + 1:]
            found += counted_by_corners(tuple(length for length in left if length))
    return found


def counted_by_differences(shape):
    """Another way to count, without hooks: by the differences of the lengths, each made different."""
    apart = [length + len(shape) - 1 - at for at, length in enumerate(shape)]
    found = math.factorial(sum(shape))
    for at, length in enumerate(apart):
        for other in apart[at + 1:]:
            found *= length - other
    return found // math.prod(math.factorial(length) for length in apart)


def shapes_of(total, most):
    if total == 0:
        yield []
    for first in range(min(total, most), 0, -1):
        for rest in shapes_of(total - first, first):
            yield [first] + rest


class HowMany(unittest.TestCase):
    def test_the_empty_shape(self):
        self.assertEqual(how_many_marks([]), 1)

    def test_one_line_and_one_column(self):
        for length in (1, 2, 3, 10, 300, 600):
            self.assertEqual(how_many_marks([length]), 1)
            self.assertEqual(how_many_marks([1] * length), 1)

    def test_a_whole_number(self):
        for shape in ([], [1], [3, 2], [20, 20]):
            self.assertIs(type(how_many_marks(shape)), int)

    def test_written_out(self):
        for shape, told in [
            ([2, 1], 2), ([2, 2], 2), ([3, 1], 3), ([3, 2], 5), ([3, 3], 5), ([3, 1, 1], 6), ([3, 2, 1], 16),
            ([4, 3, 2, 1], 768), ([3, 3, 3], 42), ([4, 4, 4, 4], 24024),
        ]:
            with self.subTest(shape=shape):
                self.assertEqual(how_many_marks(shape), told)

    def test_all_marks_tried(self):
        for shape in SHAPES + [[3, 2, 1], [3, 3], [2, 2, 2], [4, 2], [3, 1, 1, 1], [4, 1, 1], [2, 2, 1, 1]]:
            self.assertEqual(how_many_marks(shape), len(all_marks(shape)), shape)

    def test_corner_by_corner(self):
        for total in range(13):
            for shape in shapes_of(total, total):
                self.assertEqual(how_many_marks(shape), counted_by_corners(tuple(shape)), shape)

    def test_pairs_of_marks_are_as_many_as_rows(self):
        for total in range(10):
            found = sum(how_many_marks(shape) ** 2 for shape in shapes_of(total, total))
            self.assertEqual(found, math.factorial(total))

    def test_turned_about(self):
        for shape in shapes_of(14, 14):
            turned = [sum(length > place for length in shape) for place in range(shape[0])]
            self.assertEqual(how_many_marks(shape), how_many_marks(turned))

    def test_several_hundred_in_all(self):
        for length in (100, 150, 300):
            self.assertEqual(how_many_marks([length, length]), math.comb(2 * length, length) // (length + 1))
        self.assertEqual(how_many_marks([300] + [1] * 300), math.comb(599, 299))
        self.assertEqual(how_many_marks([599, 1]), 599)
        for shape in ([25] * 24, [24] * 25, list(range(34, 0, -1)), [200, 150, 100, 80, 40, 20, 5, 3, 1, 1],
                      [100] * 6, [6] * 100, [300, 200, 100], [330, 330]):
            self.assertEqual(how_many_marks(shape), counted_by_differences(shape), shape)


class Refusals(unittest.TestCase):
    def test_no_shape(self):
        for shape in (
            [0], [0, 0], [1, 0], [3, 2, 0], [0, 1], [2, 0, 1], [2, 0, 2],
            [-1], [1, -1], [3, 2, -2], [-1, -1], [-HUGE], [-2, 1],
            [1, 2], [2, 1, 2], [3, 3, 4], [1, HUGE], [1] * 299 + [2],
        ):
            for taken in (NoShape, StairError, ValueError):
                with self.subTest(shape=shape, taken=taken), self.assertRaises(taken):
                    how_many_marks(shape)


if __name__ == "__main__":
    unittest.main()
