import itertools
import unittest

from stairtable.pairs import both
from stairtable.rising import longest_falling, longest_rising
from tests.helper import HUGE, long_rows, scattered, short_rows


def never_less(ahead, behind):
    return ahead <= behind


def falls(ahead, behind):
    return behind < ahead


def mixed_rows():
    return [
        [HUGE, -HUGE, 0, HUGE - 1, HUGE, 1 - HUGE, 0, 0],
        [2, 2, 1, 1, 3, 3, 2, 2, 1, 1],
        [5, 5, 5, 1, 5, 5, 9, 5],
        scattered(40, 5, 4),
        scattered(120, 6, 30),
        scattered(600, 7, 100),
        list(range(600)),
        list(range(600, 0, -1)),
    ]


def rows():
    return itertools.chain(short_rows(), long_rows(), mixed_rows())


class Certificates(unittest.TestCase):
    def a_part(self, numbers, places, follows):
        self.assertIs(type(places), list)
        for place in places:
            self.assertIs(type(place), int)
            self.assertTrue(0 <= place < len(numbers))
        for ahead, behind in zip(places, places[1:]):
            self.assertLess(ahead, behind)
            self.assertTrue(follows(numbers[ahead], numbers[behind]), (numbers, places))

    def a_cover(self, numbers, cover, follows):
        self.assertIs(type(cover), list)
        for places in cover:
            self.a_part(numbers, places, follows)
            self.assertTrue(places, numbers)
        self.assertEqual(sorted(itertools.chain.from_iterable(cover)), list(range(len(numbers))))

    def holds(self, told, numbers, in_part, in_cover, length):
        self.assertIs(type(told), tuple)
        part, cover = told
        self.a_part(numbers, part, in_part)
        self.a_cover(numbers, cover, in_cover)
        self.assertEqual(len(part), len(cover), numbers)
        self.assertEqual(len(part), length, numbers)

    def test_rising(self):
        for numbers in rows():
            table = both(numbers)[0]
            length = len(table[0]) if table else 0
            self.holds(longest_rising(numbers), numbers, never_less, falls, length)

    def test_falling(self):
        for numbers in rows():
            length = len(both(numbers)[0])
            self.holds(longest_falling(numbers), numbers, falls, never_less, length)


class OnlyOnes(unittest.TestCase):
    """Rows of which just one answer holds, but for the order of a cover's parts."""

    def told(self, function, numbers):
        part, cover = function(numbers)
        return (part, sorted(cover))

    def test_no_numbers(self):
        self.assertEqual(longest_rising([]), ([], []))
        self.assertEqual(longest_falling([]), ([], []))

    def test_one_number(self):
        for number in (0, 5, -5, HUGE, -HUGE):
            self.assertEqual(longest_rising([number]), ([0], [[0]]))
            self.assertEqual(longest_falling([number]), ([0], [[0]]))

    def test_equal_numbers_rise_and_do_not_fall(self):
        self.assertEqual(self.told(longest_rising, [4, 4, 4]), ([0, 1, 2], [[0], [1], [2]]))
        part, cover = longest_falling([4, 4, 4])
        self.assertEqual((len(part), cover), (1, [[0, 1, 2]]))

    def test_a_rising_row(self):
        self.assertEqual(self.told(longest_rising, [1, 2, 5]), ([0, 1, 2], [[0], [1], [2]]))
        part, cover = longest_falling([1, 2, 5])
        self.assertEqual((len(part), cover), (1, [[0, 1, 2]]))

    def test_a_falling_row(self):
        self.assertEqual(self.told(longest_falling, [5, 2, 1]), ([0, 1, 2], [[0], [1], [2]]))
        part, cover = longest_rising([5, 2, 1])
        self.assertEqual((len(part), cover), (1, [[0, 1, 2]]))

    def test_equal_numbers_among_others(self):
        self.assertEqual(self.told(longest_rising, [2, 3, 2, 2]), ([0, 2, 3], [[0], [1, 2], [3]]))
        self.assertEqual(self.told(longest_falling, [2, 2, 1])[1], [[0, 1], [2]])

    def test_the_first_that_were_put_are_not_the_longest(self):
        self.assertEqual(longest_rising([9, 1, 8, 2, 3])[0], [1, 3, 4])
        self.assertEqual(longest_rising([2, 3, 1])[0], [0, 1])
        self.assertEqual(longest_falling([1, 9, 2, 8, 7])[0], [1, 3, 4])
        self.assertEqual(longest_falling([2, 1, 3])[0], [0, 1])

    def test_numbers_of_a_hundred_figures(self):
        self.assertEqual(longest_rising([HUGE, -HUGE, HUGE - 1])[0], [1, 2])
        self.assertEqual(longest_falling([HUGE - 1, HUGE, HUGE - 2])[0][1:], [2])
        self.assertEqual(self.told(longest_falling, [HUGE, HUGE - 1, HUGE - 2]), ([0, 1, 2], [[0], [1], [2]]))


class AllParts(unittest.TestCase):
    def longest(self, numbers, follows):
        found = 0
        for count in range(len(numbers) + 1):
            for part in itertools.combinations(numbers, count):
                if all(follows(ahead, behind) for ahead, behind in zip(part, part[1:])):
                    found = count
        return found

    def test_no_part_of_a_small_row_is_longer(self):
        for numbers in itertools.product(range(3), repeat=5):
            numbers = list(numbers)
            self.assertEqual(len(longest_rising(numbers)[0]), self.longest(numbers, never_less))
            self.assertEqual(len(longest_falling(numbers)[0]), self.longest(numbers, falls))


if __name__ == "__main__":
    unittest.main()
