import copy
import itertools
import unittest

from stairtable.book import Book, answers
from stairtable.errors import Empty, StairError
from tests.helper import HUGE, long_rows, plainly_both, scattered


def line_that_grew(ahead, behind):
    """The line in which two tables differ in length, the second one having a number more."""
    lengths = [len(line) for line in ahead] + [0]
    return [at for at, line in enumerate(behind) if len(line) > lengths[at]][0]


def told_plainly(deeds):
    """Point 16, with the numbers that are in kept as a row and bumped anew for each deed."""
    row, told = [], []
    for deed in deeds:
        if deed[0] == "put":
            row.append(deed[1])
            told.append(line_that_grew(plainly_both(row[:-1])[0], plainly_both(row)[0]))
        elif deed[0] == "look":
            told.append(plainly_both(row))
        else:
            told.append(row.pop() if row else "empty")
    return told


def scattered_deeds(count, step, bound):
    kinds = scattered(count, step, 8)
    numbers = scattered(count, step + 1, bound)
    found = []
    for kind, number in zip(kinds, numbers):
        if kind < 0:
            found.append(("put", number))
        else:
            found.append(("undo",) if kind < 3 else ("look",))
    return found


def all_puts(numbers):
    return [("put", number) for number in numbers]


def days():
    """Days of many sorts, the longest of some four hundred deeds."""
    small = [("put", 1), ("put", 2), ("put", 1), ("undo",), ("look",)]
    found = [[], [("undo",)], [("look",)], [("undo",), ("undo",), ("look",), ("put", 3), ("look",)]]
    found += [all_puts(row) + [("look",)] + [("undo",)] * (len(row) + 2) + [("look",)]
              for row in ([5], [3, 2, 1], [1, 2, 3], [4, 4, 4], [HUGE, -HUGE, 0, HUGE, -HUGE], [4, 1, 3, 1, 2])]
    found += [list(deeds) for deeds in itertools.product(small, repeat=4)]
    found += [scattered_deeds(400, step, bound) for step, bound in ((1, 3), (2, 20), (3, 1000000))]
    found += [all_puts(row)[:200] + [("undo",)] * 100 + all_puts(row)[200:] + [("look",)] for row in long_rows()]
    return found


def done(book, deed):
    try:
        return getattr(book, deed[0])(*deed[1:])
    except Empty:
        return "empty"


class Days(unittest.TestCase):
    def test_no_deeds(self):
        self.assertEqual(answers([]), [])

    def test_a_small_day(self):
        deeds = [
            ("undo",), ("look",), ("put", 4), ("put", 1), ("put", 3), ("look",), ("put", 1), ("look",), ("undo",),
            ("undo",), ("put", 0), ("look",), ("undo",), ("undo",), ("undo",), ("undo",), ("put", 7), ("look",),
        ]
        told = answers(deeds)
        self.assertIs(type(told), list)
        self.assertEqual(told, [
            "empty", ([], []), 0, 1, 0, ([[1, 3], [4]], [[0, 2], [1]]), 2, ([[1, 1], [3], [4]], [[0, 2], [1], [3]]), 1,
            3, 2, ([[0], [1], [4]], [[0], [1], [2]]), 0, 1, 4, "empty", 0, ([[7]], [[0]]),
        ])

    def test_many_days(self):
        for deeds in days():
            book = Book()
            told = told_plainly(deeds)
            self.assertEqual(answers(deeds), told)
            self.assertEqual([done(book, deed) for deed in deeds], told)

    def test_kinds(self):
        told = answers([("undo",), ("put", 3), ("look",), ("undo",)])
        self.assertEqual([type(answer) for answer in told], [str, int, tuple, int])
        self.assertEqual([type(part) for part in told[2]], [list, list])

    def test_four_hundred_deeds(self):
        rising = all_puts(range(400))
        self.assertEqual(answers(rising), [0] * 400)
        falling = all_puts(range(400, 0, -1))
        self.assertEqual(answers(falling), list(range(400)))
        self.assertEqual(answers([("undo",)] * 400), ["empty"] * 400)
        numbers = scattered(200, 17, 50)
        self.assertEqual(answers(all_puts(numbers) + [("undo",)] * 200)[200:], numbers[::-1])

    def test_each_day_begins_a_book(self):
        self.assertEqual(answers([("put", 1), ("put", 2)]), [0, 0])
        self.assertEqual(answers([("look",), ("undo",), ("put", 0)]), [([], []), "empty", 0])


class Books(unittest.TestCase):
    def test_a_book_at_its_beginning(self):
        told = Book().look()
        self.assertIs(type(told), tuple)
        self.assertEqual(told, ([], []))

    def test_put_tells_the_line_and_undo_the_number(self):
        book = Book()
        self.assertEqual([book.put(number) for number in (2, 2, 1, HUGE, -HUGE)], [0, 0, 1, 0, 2])
        self.assertEqual(book.look(), ([[-HUGE, 2, HUGE], [1], [2]], [[0, 1, 3], [2], [4]]))
        self.assertEqual([book.undo() for _ in range(5)], [-HUGE, HUGE, 1, 2, 2])
        self.assertEqual(book.look(), ([], []))

    def test_undo_with_nothing_in_the_table(self):
        for taken in (Empty, StairError, ValueError):
            book = Book()
            for number in (3, 1, 2):
                with self.assertRaises(taken):
                    book.undo()
                self.assertEqual(book.look(), ([], []))
                self.assertEqual(book.put(number), 0)
                self.assertEqual(book.look(), ([[number]], [[0]]))
                self.assertEqual(book.undo(), number)

    def test_refused_again_and_again_the_book_goes_on_as_before(self):
        book = Book()
        for _ in range(20):
            with self.assertRaises(Empty):
                book.undo()
        self.assertEqual([book.put(number) for number in (3, 1, 2)], [0, 1, 0])
        self.assertEqual(book.look(), ([[1, 2], [3]], [[0, 2], [1]]))

    def test_two_books_beside_each_other(self):
        one_day, other_day = scattered_deeds(150, 71, 9), scattered_deeds(150, 72, 9)
        one, other = Book(), Book()
        one_told, other_told = [], []
        for one_deed, other_deed in zip(one_day, other_day):
            one_told.append(done(one, one_deed))
            other_told.append(done(other, other_deed))
        self.assertEqual(one_told, told_plainly(one_day))
        self.assertEqual(other_told, told_plainly(other_day))


class KeptLooks(unittest.TestCase):
    def spoil(self, told):
        for lines in told:
            for line in lines:
                line.reverse()
                line.append(-77)
            lines.append([5])

    def test_a_look_stays_through_later_deeds(self):
        for step in (5, 6):
            book, kept = Book(), []
            for deed in scattered_deeds(200, step, 12):
                if deed[0] == "put":
                    book.put(deed[1])
                elif deed[0] == "undo" and book.look()[0]:
                    book.undo()
                told = book.look()
                kept.append((told, copy.deepcopy(told)))
            for told, then in kept:
                self.assertEqual(told, then)

    def test_a_look_that_is_changed_changes_no_book(self):
        row = []
        book = Book()
        for deed in scattered_deeds(200, 8, 12):
            if deed[0] == "put":
                self.spoil(book.look())
                row.append(deed[1])
                self.assertEqual(book.put(deed[1]), line_that_grew(plainly_both(row[:-1])[0], plainly_both(row)[0]))
            elif deed[0] == "undo" and row:
                self.spoil(book.look())
                self.assertEqual(book.undo(), row.pop())
            self.spoil(book.look())
            self.assertEqual(book.look(), plainly_both(row))

    def test_two_looks_are_apart(self):
        book = Book()
        for number in (3, 1, 2):
            book.put(number)
        first, second = book.look(), book.look()
        self.spoil(first)
        self.assertEqual(second, ([[1, 2], [3]], [[0, 2], [1]]))

    def test_looks_of_a_day_are_apart(self):
        told = answers([("look",), ("put", 3), ("look",), ("look",), ("put", 1), ("look",)])
        self.spoil(told[2])
        self.spoil(told[0])
        self.assertEqual(told[3], ([[3]], [[0]]))
        self.assertEqual(told[5], ([[1], [3]], [[0], [1]]))


if __name__ == "__main__":
    unittest.main()
