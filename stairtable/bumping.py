"""Numbers bumped into a stair table, and taken out of it at a corner."""

from stairtable.errors import NoLine
from stairtable.stairs import copied, corners, must_be_table, shape_of, shorten


# push and pull change the table that they are given and ask nothing of it, so that a
# whole row can go in or out without a check and a copy for each of its numbers.


def push(table, number):
    at = 0
    while at < len(table):
        line = table[at]
        # A line never falls, so those that are not greater stand ahead of all the greater ones.
        place = len([held for held in line if held <= number])
        if place == len(line):
            line.append(number)
            return at
        pushed = line[place]
        line[place] = number
        number = pushed
        at += 1
    table.append([number])
    return at


def pull(table, last):
    number = shorten(table, last)
    at = last - 1
    while at >= 0:
        line = table[at]
        # The number stood below a lesser one, so there is at least one here.
        place = len([held for held in line if held < number]) - 1
        pulled = line[place]
        line[place] = number
        number = pulled
        at -= 1
    return number


def bumped(lines, number):
    must_be_table(lines)
    table = copied(lines)
    grown = push(table, number)
    return (table, grown)


def unbumped(lines, last):
    must_be_table(lines)
    if last not in corners(shape_of(lines)):
        raise NoLine("the line is no corner")
    table = copied(lines)
    number = pull(table, last)
    return (table, number)
