"""Rows of numbers as pairs of a table and marks."""

from stairtable.bumping import pull, push
from stairtable.errors import NoMarks, NoPair
from stairtable.stairs import copied, is_marked, must_be_table, shape_of


def put_mark(marks, grown, mark):
    if grown == len(marks):
        marks.append([])
    marks[grown].append(mark)


def both(numbers):
    table = []
    marks = []
    for mark, number in enumerate(numbers):
        put_mark(marks, push(table, number), mark)
    return (table, marks)


def must_be_pair(lines, marks):
    must_be_table(lines)
    if not is_marked(marks):
        raise NoMarks("the lines are no marks")
    if shape_of(lines) != shape_of(marks):
        raise NoPair("the table and the marks have different shapes")


def lines_of_marks(marks):
    found = {}
    for at, line in enumerate(marks):
        for mark in line:
            found[mark] = at
    return found


def numbers_of(lines, marks):
    must_be_pair(lines, marks)
    table = copied(lines)
    line_of = lines_of_marks(marks)
    numbers = []
    for mark in range(len(line_of) - 1, -1, -1):
        numbers.append(pull(table, line_of[mark]))
    # They came out with the row's last number first.
    numbers.reverse()
    return numbers


def table_of(numbers):
    return both(numbers)[0]


def same_table(one, other):
    return table_of(one) == table_of(other)
