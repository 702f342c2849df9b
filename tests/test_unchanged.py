import copy
import unittest

from stairtable.book import answers
from stairtable.bumping import bumped, unbumped
from stairtable.counting import how_many_marks
from stairtable.errors import StairError
from stairtable.pairs import both, numbers_of, same_table
from stairtable.rising import longest_falling, longest_rising
from stairtable.sliding import emptied, slid
from stairtable.stairs import columns, corners, is_marked, is_table, read_out
from tests.helper import NO_TABLES, TABLES, TABLES_NO_MARKS, long_rows

ROWS = [[], [5], [3, 1, 2], [2, 1, 2, 1], [4, 1, 3, 1, 2, 5, 0]] + long_rows()[-2:]
LINES = TABLES + NO_TABLES + TABLES_NO_MARKS + [[[0, 2], [1]], [[0, 1], [2]], [[0, 1, 2], [3, 4]]]

DAYS = [
    [],
    [("undo",)],
    [("look",), ("look",)],
    [("put", 2), ("look",), ("put", 1), ("look",), ("look",), ("undo",), ("look",), ("undo",), ("undo",), ("look",)],
]


def calls():
    """Each function with many inputs, such as it refuses among them."""
    found = []
    for lines in LINES:
        found += [(function, (lines,)) for function in (is_table, is_marked, read_out, columns, slid, emptied)]
        found += [(bumped, (lines, number)) for number in (-9, 1, 2, 9)]
        found += [(unbumped, (lines, last)) for last in (-1, 0, 1, 2, 3)]
        found += [(numbers_of, (lines, marks)) for marks in LINES]
    for shape in ([], [1], [2, 2, 1], [3, 2], [1, 2], [0], [-1]):
        found += [(function, (shape,)) for function in (corners, how_many_marks)]
    for deeds in DAYS:
        found.append((answers, (deeds,)))
    for row in ROWS:
        found += [(function, (row,)) for function in (both, longest_rising, longest_falling)]
        found += [(function, (both(row)[1],)) for function in (slid, emptied)]
        found.append((numbers_of, both(row)))
        found += [(same_table, (row, other)) for other in ROWS]
    return [(function, copy.deepcopy(given)) for function, given in found]


def answer(function, given):
    try:
        return ("told", function(*given))
    except StairError as error:
        return ("refused", type(error))


def spoil(value):
    """Change each list within the value, the innermost too."""
    if isinstance(value, (list, tuple)):
        for part in value:
            spoil(part)
    if isinstance(value, list):
        value.reverse()
        value.append(-1234)


class Unchanged(unittest.TestCase):
    def test_what_is_handed_in_stays_as_it_was(self):
        for function, given in calls():
            ahead = copy.deepcopy(given)
            answer(function, given)
            self.assertEqual(given, ahead, function)

    def test_an_answer_stays_when_what_was_handed_in_changes(self):
        for function, given in calls():
            told = answer(function, given)
            ahead = copy.deepcopy(told)
            spoil(given)
            self.assertEqual(told, ahead, function)

    def test_what_was_handed_in_stays_when_an_answer_changes(self):
        for function, given in calls():
            ahead = copy.deepcopy(given)
            spoil(answer(function, given))
            self.assertEqual(given, ahead, function)

    def test_a_changed_answer_changes_no_other(self):
        for function, given in calls():
            first = answer(function, given)
            second = answer(function, given)
            ahead = copy.deepcopy(second)
            self.assertEqual(first, ahead, function)
            spoil(first)
            self.assertEqual(second, ahead, function)
            self.assertEqual(answer(function, given), ahead, function)

    def test_changed_inputs_change_no_later_answer(self):
        for function, given in calls():
            again = copy.deepcopy(given)
            first = copy.deepcopy(answer(function, given))
            spoil(given)
            self.assertEqual(answer(function, again), first, function)

    def test_the_lists_of_one_answer_are_apart(self):
        for function, given in calls():
            lists = lists_within(answer(function, given))
            self.assertEqual(len({id(part) for part in lists}), len(lists), function)


def lists_within(value):
    found = [value] if isinstance(value, list) else []
    if isinstance(value, (list, tuple)):
        for part in value:
            found += lists_within(part)
    return found


if __name__ == "__main__":
    unittest.main()
