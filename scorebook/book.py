"""The book as it is called: a list of calls in, a list of their answers out."""

from scorebook.actions import Book, act

# By the call's number: how many numbers are handed over with it.
SIZES = (5, 2, 1, 8, 1, 2, 1, 0, 0, 0)


def answers(calls):
    """Go through the calls on one new book; give back each call's answer behind its length."""
    book = Book()
    found = []
    place = 0
    while place < len(calls):
        number = calls[place]
        behind = place + 1 + SIZES[number]
        found.extend([1, act(book, number, calls[place + 1:behind])])
        place = behind
    return found
