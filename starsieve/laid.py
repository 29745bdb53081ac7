"""Trees that split boxes of words, and the tree by which a book's words come to the rows that they meet."""

from starsieve.books import need_book
from starsieve.forms import both, how_many, is_place, lies_in, with_sign


def stars(width):
    """The form that fits all words of the width."""
    return "*" * width


def is_named(name, many, thing):
    """Whether thing is a tuple of the name and so many things more."""
    return isinstance(thing, tuple) and len(thing) == many + 1 and thing[0] == name


def leaves(box, tree):
    """All tuples (box, leaf) to which the tree splits the box, or None where it splits at no star."""
    if not is_named("split", 3, tree):
        return [(box, tree)]
    at = tree[1]
    if not is_place(len(box), at) or box[at] != "*":
        return None
    zero = leaves(with_sign(box, at, "0"), tree[2])
    one = leaves(with_sign(box, at, "1"), tree[3])
    if zero is None or one is None:
        return None
    return zero + one


def first_touching(rows, box):
    """The number of the first row whose form fits a word of the box, or None."""
    for number, row in enumerate(rows):
        if both(row[0], box) is not None:
            return number
    return None


def splitting_place(rows, box):
    """A place that parts words of the box which meet unlike rows, or None where all meet the same or none."""
    number = first_touching(rows, box)
    if number is None:
        return None
    for at, sign in enumerate(rows[number][0]):
        if box[at] == "*" and sign != "*":
            return at
    return None


def grown(name, many_rows, box):
    """A tree for the box with leaves of the name and, for each rows of many, the number of the row met, or None."""
    for rows in many_rows:
        at = splitting_place(rows, box)
        if at is not None:
            zero = grown(name, many_rows, with_sign(box, at, "0"))
            one = grown(name, many_rows, with_sign(box, at, "1"))
            return ("split", at, zero, one)
    return (name,) + tuple([first_touching(rows, box) for rows in many_rows])


def is_met(rows, box, number):
    """Whether all words of the box meet the row of the number, or none for None."""
    if number is None:
        return first_touching(rows, box) is None
    if not is_place(len(rows), number) or not lies_in(box, rows[number][0]):
        return False
    return first_touching(rows, box) == number


def laid(book):
    """A right tree of the book."""
    need_book(book)
    width, rows = book
    return grown("met", [rows], stars(width))


def is_laid(book, tree):
    """Whether the tree is a right one of the book."""
    need_book(book)
    width, rows = book
    found = leaves(stars(width), tree)
    if found is None:
        return False
    return all([is_named("met", 1, leaf) and is_met(rows, box, leaf[1]) for box, leaf in found])


def counts(book):
    """How many words meet each row, in order, and last how many meet none."""
    tree = laid(book)
    width, rows = book
    many = [0 for row in rows] + [0]
    for box, leaf in leaves(stars(width), tree):
        at = len(rows) if leaf[1] is None else leaf[1]
        many[at] += how_many(box)
    return many
