"""Words, forms and things of all kinds, told without the program's own help."""

import itertools

WIDTHS = (1, 2, 3, 4, 5, 6)


def all_words(width):
    return ["".join(signs) for signs in itertools.product("01", repeat=width)]


def all_forms(width):
    return ["".join(signs) for signs in itertools.product("01*", repeat=width)]


def words_of(form):
    """The words of a form, built place by place and not by asking each word."""
    choices = ["01" if sign == "*" else sign for sign in form]
    return frozenset("".join(signs) for signs in itertools.product(*choices))


def things():
    """Things that are neither a width, nor a word, a form, a deed or a book, made anew."""
    return [
        True, False, None, 0, 7, -1, -6, 10 ** 30, -(10 ** 30),
        "", " ", "\n", "\t", "a b", "2", "0 ", "0\n", "0\t1", "**2", "-1", "~",
        (), (1,), (1, 2, 3), ("0",), ("0", "1"), ("*",), (None,), (True, ()), ("1", ()), (0, ()), (7, ()),
        [], [1], ["0"], ["0", "1"], ["*"], ["*", "*"], [None], [1, ()], [1, []], (1, []), (1, None), (1, "0"),
        ((((1,),),),), [[[["0"]]]], ([([True],)],), (1, ([[None]],)), (1, (("0", ["a"]),)), (1, (("0", ("a",)),)),
    ]
