"""Shapes, stair tables and marks."""

from stairtable.errors import NoMarks, NoShape, NoTable


def shape_of(lines):
    return [len(line) for line in lines]


def never_falls(numbers):
    return all([ahead <= behind for ahead, behind in zip(numbers, numbers[1:])])


def never_grows(numbers):
    return all([ahead >= behind for ahead, behind in zip(numbers, numbers[1:])])


def is_shape(lengths):
    return never_grows(lengths) and all([length >= 1 for length in lengths])


def lies_below(upper, lower):
    return all([above < below for above, below in zip(upper, lower)])


def is_table(lines):
    # The shape comes first: behind it, each number of a lower line has one above it.
    if not is_shape(shape_of(lines)):
        return False
    if not all([never_falls(line) for line in lines]):
        return False
    return all([lies_below(upper, lower) for upper, lower in zip(lines, lines[1:])])


def all_numbers(lines):
    numbers = []
    for line in lines:
        numbers.extend(line)
    return numbers


def is_marked(lines):
    numbers = all_numbers(lines)
    return is_table(lines) and sorted(numbers) == list(range(len(numbers)))


def must_be_table(lines):
    if not is_table(lines):
        raise NoTable("the lines are no stair table")


def must_be_marked(lines):
    if not is_marked(lines):
        raise NoMarks("the lines are no marks")


def must_be_shape(lengths):
    if not is_shape(lengths):
        raise NoShape("the list is no shape")


def copied(lines):
    return [list(line) for line in lines]


# lengthen and shorten change the lines that they are given.


def lengthen(lines, at, number):
    if at == len(lines):
        lines.append([])
    lines[at].append(number)


def shorten(lines, at):
    number = lines[at].pop()
    if len(lines[at]) == 0:
        # No line is longer than the one ahead of it, so only the last one can run out.
        lines.pop()
    return number


def marks_of(grown):
    marks = []
    for mark, at in enumerate(grown):
        lengthen(marks, at, mark)
    return marks


def read_out(lines):
    must_be_table(lines)
    return all_numbers(lines[::-1])


def column_at(lines, place):
    return [line[place] for line in lines if place < len(line)]


def columns(lines):
    # The longest line, not the first one: lines that are no stair table are answered too.
    longest = max(shape_of(lines), default=0)
    return [column_at(lines, place) for place in range(longest)]


def corners(shape):
    must_be_shape(shape)
    # A nought behind the last line makes that line longer than the next one, so a corner.
    behind = shape[1:] + [0]
    return [at for at in range(len(shape)) if shape[at] > behind[at]]
