"""Rows that a book can do without."""

from starsieve.alike import alike
from starsieve.books import need_book, need_row


def without(book, number):
    """The book without the row of the number."""
    need_row(book, number)
    width, rows = book
    return (width, rows[:number] + rows[number + 1:])


def needless(book, number):
    """("needless", a tree of the book and the book without the row), or ("needed", the least word that parts them)."""
    name, shown = alike(book, without(book, number))
    return ("needless" if name == "alike" else "needed", shown)


def lean(book):
    """The book without the rows that are needless, taken out from the last to the first."""
    need_book(book)
    left = book
    # One walk is enough: rows ahead that are taken out leave a needed row its words and what is behind it.
    for number in reversed(range(len(book[1]))):
        if needless(left, number)[0] == "needless":
            left = without(left, number)
    return left
