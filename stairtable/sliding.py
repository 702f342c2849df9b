"""Marks slid, and emptied by sliding."""

from stairtable.stairs import copied, marks_of, must_be_marked, shorten


def has_place(lines, at, place):
    return at < len(lines) and place < len(lines[at])


def goes_down(marks, at, place):
    if not has_place(marks, at + 1, place):
        return False
    if not has_place(marks, at, place + 1):
        return True
    return marks[at + 1][place] < marks[at][place + 1]


def slide(marks):
    # The marks given are changed, but none is made one less: that would not change which of two
    # is the lesser, so they can be slid again and again without it.
    at = 0
    place = 0
    while has_place(marks, at, place + 1) or has_place(marks, at + 1, place):
        if goes_down(marks, at, place):
            marks[at][place] = marks[at + 1][place]
            at += 1
        else:
            marks[at][place] = marks[at][place + 1]
            place += 1
    shorten(marks, at)
    return at


def one_less(line):
    return [mark - 1 for mark in line]


def slid(marks):
    must_be_marked(marks)
    if len(marks) == 0:
        return ([], None)
    rest = copied(marks)
    shorter = slide(rest)
    return ([one_less(line) for line in rest], shorter)


def emptied(marks):
    must_be_marked(marks)
    rest = copied(marks)
    shorter = []
    while len(rest) > 0:
        shorter.append(slide(rest))
    # The greatest mark belongs to the first sliding, so the lines grow again from the last one on.
    shorter.reverse()
    return marks_of(shorter)
