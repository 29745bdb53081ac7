"""Two books that do the same, or a word by which they part."""

from starsieve.books import deed, deed_of, need_two_books
from starsieve.forms import least
from starsieve.laid import grown, is_met, is_named, leaves, stars


def same_deeds(one, other, leaf):
    """Whether the rows that the leaf tells of both books have the same deed, or there are none."""
    return deed_of(one, leaf[1]) == deed_of(other, leaf[2])


def alike(one, other):
    """("parted", the least word that has unlike deeds), or ("alike", a tree that shows that there is none)."""
    need_two_books(one, other)
    box = stars(one[0])
    tree = grown("same", [one[1], other[1]], box)
    parting = [least(part) for part, leaf in leaves(box, tree) if not same_deeds(one, other, leaf)]
    if parting:
        return ("parted", min(parting))
    return ("alike", tree)


def parting_word(one, other):
    """The least word that has unlike deeds in the two books, or None."""
    name, shown = alike(one, other)
    return shown if name == "parted" else None


def is_same(one, other, box, leaf):
    """Whether the leaf tells the rows that all words of the box meet in both books, with the same deeds."""
    if not is_named("same", 2, leaf):
        return False
    if not is_met(one[1], box, leaf[1]) or not is_met(other[1], box, leaf[2]):
        return False
    return same_deeds(one, other, leaf)


def is_alike(one, other, tree):
    """Whether the tree shows that each word has the same deed in both books."""
    need_two_books(one, other)
    found = leaves(stars(one[0]), tree)
    if found is None:
        return False
    return all([is_same(one, other, box, leaf) for box, leaf in found])


def parts(one, other, word):
    """Whether the word has unlike deeds in the two books."""
    need_two_books(one, other)
    return deed(one, word) != deed(other, word)
