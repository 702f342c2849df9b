"""Longest rising and falling parts of a row, each with a cover that shows that none is longer."""

from stairtable.stairs import lengthen


def falls(ahead, behind):
    return ahead > behind


def never_less(ahead, behind):
    return ahead <= behind


# goes_on tells whether a number may follow another one in a part of the cover.


def pile_for(tops, number, goes_on):
    for at, top in enumerate(tops):
        if goes_on(top, number):
            return at
    return len(tops)


def piled(numbers, goes_on):
    piles = []
    for place, number in enumerate(numbers):
        tops = [numbers[pile[-1]] for pile in piles]
        lengthen(piles, pile_for(tops, number, goes_on), place)
    return piles


def one_of_each(piles, behind):
    part = []
    for pile in piles[::-1]:
        # What lay on top of this pile when the place behind came: that one did not go on here,
        # so the two numbers don't go on in the cover's way, but in the part's.
        behind = [place for place in pile if place < behind][-1]
        part.append(behind)
    part.reverse()
    return part


def part_and_cover(numbers, goes_on):
    piles = piled(numbers, goes_on)
    return (one_of_each(piles, len(numbers)), piles)


def longest_rising(numbers):
    return part_and_cover(numbers, falls)


def longest_falling(numbers):
    return part_and_cover(numbers, never_less)
