"""A book of numbers that are bumped in one by one and taken back again."""

from stairtable.bumping import pull, push
from stairtable.errors import Empty
from stairtable.stairs import copied, marks_of


class Book:
    def __init__(self):
        self.table = []
        # The lines that grew, in their order, stand for the marks: the last one is where to undo.
        self.grown = []

    def put(self, number):
        at = push(self.table, number)
        self.grown.append(at)
        return at

    def undo(self):
        if len(self.grown) == 0:
            raise Empty("nothing is in the table")
        return pull(self.table, self.grown.pop())

    def look(self):
        return (copied(self.table), marks_of(self.grown))


def answer(book, deed):
    if deed[0] == "put":
        return book.put(deed[1])
    if deed[0] == "look":
        return book.look()
    try:
        return book.undo()
    except Empty:
        return "empty"


def answers(deeds):
    book = Book()
    told = []
    for deed in deeds:
        told.append(answer(book, deed))
    return told
