"""Rows of numbers as pairs of a table and marks."""

from stairtable.bumping import pull, push
from stairtable.errors import NoPair
from stairtable.stairs import copied, marks_of, must_be_marked, must_be_table, shape_of


def both(numbers):
    table = []
    grown = []
    for number in numbers:
        grown.append(push(table, number))
    return (table, marks_of(grown))


def must_be_pair(lines, marks):
    must_be_table(lines)
    must_be_marked(marks)
    if shape_of(lines) != shape_of(marks):
        raise NoPair("the table and the marks have different shapes")


def lines_of_marks(marks):
    found = {}
    for at, line in enumerate(marks):
        for mark in line:
            found[mark] = at
    return found


def numbers_of(lines, marks):
    must_be_pair(lines, marks)
    table = copied(lines)
    line_of = lines_of_marks(marks)
    numbers = []
    for mark in range(len(line_of) - 1, -1, -1):
        numbers.append(pull(table, line_of[mark]))
    # They came out with the row's last number first.
    numbers.reverse()
    return numbers


def table_of(numbers):
    return both(numbers)[0]


def same_table(one, other):
    return table_of(one) == table_of(other)
