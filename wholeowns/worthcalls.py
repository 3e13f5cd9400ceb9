"""The calls on what all are worth (point 3)."""

from wholeowns.layout import counted_fractions
from wholeowns.refusals import CANNOT_BE
from wholeowns.worth import book_worths, people_by_books, people_by_real_parts


def answer_worths(holdings):
    return counted_fractions(people_by_real_parts(holdings))


def answer_bookworths(holdings):
    books = book_worths(holdings)
    if books is None:
        return [CANNOT_BE]
    return counted_fractions(people_by_books(holdings, books))


def answer_books(holdings):
    books = book_worths(holdings)
    if books is None:
        return [CANNOT_BE]
    return counted_fractions(books)


WORTH_CALLS = {
    33: answer_worths,
    34: answer_bookworths,
    35: answer_books,
}


def worth_doer(number):
    return WORTH_CALLS.get(number)
