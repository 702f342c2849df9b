"""Rows, tables and marks for the tests, made without the program."""

import itertools
from bisect import bisect_right

HUGE = 10 ** 100 - 1

SHAPES = [
    [], [1], [2], [1, 1], [3], [2, 1], [1, 1, 1], [4], [3, 1], [2, 2], [2, 1, 1], [1, 1, 1, 1],
    [5], [4, 1], [3, 2], [3, 1, 1], [2, 2, 1], [2, 1, 1, 1], [1, 1, 1, 1, 1],
]

NO_TABLES = [
    [[]],
    [[], []],
    [[], [1]],
    [[1], []],
    [[1, 2], [3], []],
    [[1], [2, 3]],
    [[1, 1], [2], [3, 3]],
    [[2, 1]],
    [[1, 3, 2]],
    [[1, 1], [3, 2]],
    [[1, 2], [1]],
    [[1, 2], [0]],
    [[1, 5], [2, 5]],
    [[1, 5], [2, 4]],
    [[1], [2], [2]],
    [[1], [3], [2]],
    [[-1], [-1]],
    [[HUGE], [HUGE]],
    [[HUGE, HUGE - 1]],
    [[-HUGE + 1, -HUGE]],
]

TABLES = [
    [],
    [[7]],
    [[-7]],
    [[1, 1, 1]],
    [[1, 1, 3], [2, 4]],
    [[1, 2, 2, 5], [3, 3], [4]],
    [[1], [2], [3]],
    [[-5, -5, 0], [-4, 0], [9, 9]],
    [[-HUGE, -HUGE, HUGE - 1], [HUGE - 1, HUGE], [HUGE]],
]

TABLES_NO_MARKS = [
    [[1]],
    [[-1]],
    [[0, 0]],
    [[0, 2]],
    [[-1, 0]],
    [[1, 2], [3]],
    [[0, 1], [1]],
    [[0, 0], [1]],
    [[0, 1], [3]],
    [[0, 2], [3]],
    [[0, 1, 1], [2, 4]],
    [[0, 1, HUGE], [2]],
]


def fillings(lengths, numbers):
    """All lines of these lengths that hold nothing but these numbers."""
    for chosen in itertools.product(numbers, repeat=sum(lengths)):
        rest = iter(chosen)
        yield [[next(rest) for _ in range(length)] for length in lengths]


def plainly_a_table(lines):
    """Point 3, place by place."""
    for at, line in enumerate(lines):
        if not line:
            return False
        if at and len(line) > len(lines[at - 1]):
            return False
        for place, number in enumerate(line):
            if place and number < line[place - 1]:
                return False
            if at and number <= lines[at - 1][place]:
                return False
    return True


def all_tables(shape, numbers):
    return [lines for lines in fillings(shape, numbers) if plainly_a_table(lines)]


def all_marks(shape):
    count = sum(shape)
    found = []
    for order in itertools.permutations(range(count)):
        rest = iter(order)
        lines = [[next(rest) for _ in range(length)] for length in shape]
        if plainly_a_table(lines):
            found.append(lines)
    return found


def plainly_both(numbers):
    """Point 8, told line by line: each line passes on to the next what leaves it."""
    table, marks = [], []
    coming = list(enumerate(numbers))
    while coming:
        line, marked, leaving = [], [], []
        for mark, number in coming:
            place = bisect_right(line, number)
            if place == len(line):
                marked.append(mark)
            else:
                leaving.append((mark, line[place]))
            line[place:place + 1] = [number]
        table.append(line)
        marks.append(marked)
        coming = leaving
    return (table, marks)


def scattered(count, step, bound):
    """A row that neither rises nor falls throughout, the same each time."""
    row = []
    state = 12345
    for _ in range(count):
        state = (state * 1103515245 + step) % 2147483648
        row.append((state >> 8) % bound - bound // 2)
    return row


def long_rows():
    return [
        list(range(300)),
        list(range(300, 0, -1)),
        [4] * 300,
        [-HUGE] * 150 + [HUGE] * 150,
        [HUGE - at for at in range(300)],
        [at - HUGE for at in range(300)],
        [HUGE * (-1) ** at for at in range(300)],
        [(at * 7) % 300 for at in range(300)],
        [at % 17 for at in range(300)],
        [-(at % 17) for at in range(300)],
        scattered(300, 12345, 10),
        scattered(300, 54321, 1000000),
        [number * 10 ** 92 + 1 for number in scattered(300, 999, 10000000)],
    ]


def short_rows():
    for length in range(6):
        for row in itertools.product(range(4), repeat=length):
            yield list(row)
    for row in itertools.permutations(range(6)):
        yield list(row)
