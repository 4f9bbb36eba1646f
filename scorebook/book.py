"""The book as it is called: a list of calls in, a list of their answers out."""

from scorebook.actions import begin, Book, tell, undo
from scorebook.reads import read

BEGIN = 0
UNDO = 10
FIRST_READ = 11

# By the call's number: how many numbers are handed over with it.
SIZES = (5, 2, 1, 8, 1, 2, 1, 0, 0, 0, 0, 0, 1, 2, 2, 2, 2, 3, 0)


def answers(calls):
    """Go through the calls on one new book; give back each call's answer behind its length."""
    book = Book()
    found = []
    place = 0
    while place < len(calls):
        number = calls[place]
        behind = place + 1 + SIZES[number]
        answer = answer_one(book, number, calls[place + 1:behind])
        found.append(len(answer))
        found.extend(answer)
        place = behind
    return found


def answer_one(book, number, numbers):
    if number == BEGIN:
        return [begin(book, numbers)]
    if number < UNDO:
        return [tell(book, number, numbers)]
    if number == UNDO:
        return [undo(book)]
    return read(book.game, number - FIRST_READ, numbers)
