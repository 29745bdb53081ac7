"""Books: rows of forms and deeds, of which the first that fits is met."""

from starsieve.errors import NoBook, NoMatch, NoRow, NoWord
from starsieve.forms import fits, is_form, is_place, is_width, is_word

MOST_ROWS = 12
LONGEST_DEED = 8
LETTERS = "abcdefghijklmnopqrstuvwxyz"


def is_deed(thing):
    """Whether thing, which may be anything, is a deed."""
    if not isinstance(thing, str) or not 1 <= len(thing) <= LONGEST_DEED:
        return False
    return all([sign in LETTERS for sign in thing])


def is_row(width, thing):
    """Whether thing, which may be anything, is a row of a book of the width."""
    if not isinstance(thing, tuple) or len(thing) != 2:
        return False
    return is_form(width, thing[0]) and is_deed(thing[1])


def is_book(thing):
    """Whether thing, which may be anything, is a book."""
    if not isinstance(thing, tuple) or len(thing) != 2:
        return False
    width, rows = thing
    if not is_width(width) or not isinstance(rows, tuple) or len(rows) > MOST_ROWS:
        return False
    return all([is_row(width, row) for row in rows])


def need_book(book):
    """Refuses with NoBook what is no book."""
    if not is_book(book):
        raise NoBook("a book is a tuple (width, rows)")


def need_two_books(one, other):
    """Refuses with NoBook what is no book, then with NoMatch books of unlike widths."""
    need_book(one)
    need_book(other)
    if one[0] != other[0]:
        raise NoMatch(f"one book has width {one[0]}, the other {other[0]}")


def need_row(book, number):
    """Refuses with NoBook what is no book, then with NoRow what is no number of its rows."""
    need_book(book)
    if not is_place(len(book[1]), number):
        raise NoRow(f"the book has {len(book[1])} rows, numbered from 0")


def met(book, word):
    """The number of the row that the word meets, or None."""
    need_book(book)
    width, rows = book
    if not is_word(width, word):
        raise NoWord(f"a word of this book has {width} signs, each 0 or 1")
    for number, row in enumerate(rows):
        if fits(row[0], word):
            return number
    return None


def deed_of(book, number):
    """The deed of the book's row of the number, or None for None."""
    if number is None:
        return None
    return book[1][number][1]


def deed(book, word):
    """The deed of the word by the book, or None."""
    return deed_of(book, met(book, word))
