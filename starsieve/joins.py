"""Rows that are joined to one, and books pressed by it."""

from starsieve.alike import parting_word
from starsieve.books import need_book, need_row
from starsieve.errors import NoJoin, NoRow, Turned
from starsieve.forms import is_place, joined
from starsieve.lean import lean, without


def joined_book(book, one, other, at):
    """The book with both rows joined at one of them, whatever it does, or None where deeds or forms forbid it."""
    width, rows = book
    form = joined(rows[one][0], rows[other][0])
    if form is None or rows[one][1] != rows[other][1]:
        return None
    grown = (width, rows[:at] + ((form, rows[at][1]),) + rows[at + 1:])
    return without(grown, other if at == one else one)


def candidates(book):
    """All tuples (one, other, at, the book joined so) that deeds and forms don't forbid, sorted by the numbers."""
    many = len(book[1])
    numbers = [(one, other, at) for one in range(many) for other in range(one + 1, many) for at in (one, other)]
    made = [(one, other, at, joined_book(book, one, other, at)) for one, other, at in numbers]
    return [candidate for candidate in made if candidate[3] is not None]


def joins(book):
    """All tuples (one, other, at) of rows that may be joined, sorted."""
    need_book(book)
    return [(one, other, at) for one, other, at, made in candidates(book) if parting_word(book, made) is None]


def join(book, one, other, at):
    """The book with the rows one and other joined at one of both."""
    need_row(book, one)
    need_row(book, other)
    if not is_place(len(book[1]), at) or at not in (one, other):
        raise NoRow("rows are joined at one of both")
    made = joined_book(book, one, other, at) if one < other else None
    if made is None:
        raise NoJoin("joined are a row and one behind it of the same deed, whose forms make one form")
    word = parting_word(book, made)
    if word is not None:
        raise Turned(word)
    return made


def first_joined(book):
    """The book with the first rows joined that may be, or None."""
    for one, other, at, made in candidates(book):
        if parting_word(book, made) is None:
            return made
    return None


def all_joined(book):
    """The book in which the first rows that may be joined were joined as long as there were such."""
    left = book
    made = first_joined(left)
    while made is not None:
        left = made
        made = first_joined(left)
    return left


def press(book):
    """The book joined and made lean, again and again, until neither turns anything."""
    need_book(book)
    left = book
    pressed = lean(all_joined(left))
    while pressed != left:
        left = pressed
        pressed = lean(all_joined(left))
    return pressed
