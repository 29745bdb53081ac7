"""Rows that words meet, and rows whose words all go to rows ahead."""

from starsieve.books import need_book, need_row
from starsieve.forms import is_place, least, lies_in
from starsieve.laid import grown, is_named, leaves


def reach(book, number):
    """("word", the least word that meets the row), or ("hidden", a tree of the rows ahead that take all its words)."""
    need_row(book, number)
    rows = book[1]
    form = rows[number][0]
    tree = grown("under", [rows[:number]], form)
    free = [least(box) for box, leaf in leaves(form, tree) if leaf[1] is None]
    if free:
        return ("word", min(free))
    return ("hidden", tree)


def is_under(rows, box, leaf):
    """Whether the leaf tells one of the rows, and the box lies in that row's form."""
    if not is_named("under", 1, leaf) or not is_place(len(rows), leaf[1]):
        return False
    return lies_in(box, rows[leaf[1]][0])


def is_hidden(book, number, tree):
    """Whether the tree shows that the rows ahead take all words of the row."""
    need_row(book, number)
    rows = book[1]
    found = leaves(rows[number][0], tree)
    if found is None:
        return False
    return all([is_under(rows[:number], box, leaf) for box, leaf in found])


def hidden(book):
    """The numbers of all rows that no word meets, rising."""
    need_book(book)
    return [number for number in range(len(book[1])) if reach(book, number)[0] == "hidden"]
