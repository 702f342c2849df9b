"""How many marks a shape has."""

from stairtable.stairs import must_be_shape


def product(numbers):
    told = 1
    for number in numbers:
        told = told * number
    return told


def height_at(shape, place):
    return len([length for length in shape if place < length])


def hook_at(shape, at, place):
    right = shape[at] - place - 1
    below = height_at(shape, place) - at - 1
    return right + below + 1


def hooks(shape):
    found = []
    for at, length in enumerate(shape):
        found.extend([hook_at(shape, at, place) for place in range(length)])
    return found


def how_many_marks(shape):
    must_be_shape(shape)
    # The hook of a place is itself with the places right of it and below it. Of all the orders
    # of n numbers, one in so many as the product of the hooks is in the order of marks.
    orders = product(list(range(1, sum(shape) + 1)))
    return orders // product(hooks(shape))
