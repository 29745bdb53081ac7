"""Points 2, 6 and 7: what a book is, and which row a word meets."""

import copy
import random
import unittest

from samples import WIDTHS, all_forms, all_words, things, words_of
from starsieve.books import deed, is_book, met, need_book
from starsieve.errors import NoBook, NoWord

DEEDS = ("a", "z", "go", "stay", "abcdefgh")


def some_books():
    """Books of all widths and numbers of rows, the same in each run."""
    chance = random.Random(11)
    books = []
    for width in WIDTHS:
        forms = all_forms(width)
        for many in range(13):
            rows = [(chance.choice(forms), chance.choice(DEEDS)) for at in range(many)]
            books.append((width, tuple(rows)))
    return books


def bent_widths():
    rows = (("0*", "a"),)
    return [(width, rows) for width in (0, 1, 3, 7, -2, True, False, None, "2", "", (2,), [2], 10 ** 20)] + [
        (True, (("0", "a"),)), (True, ()), (False, ()), ("1", ()), (0, ()), (7, ()), (7, (("0" * 7, "a"),)),
        (0, (("", "a"),)), (None, ()),
    ]


def bent_rows():
    row = ("0*", "a")
    parts = [
        list(row), ("0*",), ("0*", "a", "b"), ("0*", "a", ""), (), [], None, True, 0, "0*", "0a", ("a", "0*"), (row,),
        [row], ((row,),),
    ]
    rows = [(row,) * 13, (row,) * 14, [row], [], [row, row], None, "", "0*", 0, True, row]
    return [(2, given) for given in rows] + [(2, (row, part)) for part in parts] + [(2, (part, row)) for part in parts]


def bent_forms():
    forms = ["", "0", "0*1", "02", "0 ", "a*", "0\n", "0*\n", " 0*", "?1", None, 0, 1, True, ["0", "*"], ("0", "*"),
             ["0*"], ("0*",)]
    return [(2, (("11", "b"), (form, "a"))) for form in forms]


def bent_deeds():
    deeds = ["", "abcdefghi", "abcdefghij", "A", "aB", "Ab", "a b", " a", "a ", "a\n", "\na", "a\t", "a1", "1", "-", "*",
             "a_b", "`", "{", "@", "[", None, 1, True, ["a"], ("a",), [], ()]
    return [(2, (("11", "b"), ("0*", given))) for given in deeds]


def bent_wholes():
    row = ("0*", "a")
    return [[2, (row,)], [2, ()], (2,), (2, (row,), ()), (2, (row,), None), ((row,), 2), ((2, (row,)),), [(2, (row,))],
            (2, row), ("0*", "a"), (2, ((row,),))]


def no_books():
    return bent_widths() + bent_rows() + bent_forms() + bent_deeds() + bent_wholes() + things()


def first_row(book, word):
    """The first row that fits, told by the words of each form."""
    numbers = [number for number, row in enumerate(book[1]) if word in words_of(row[0])]
    return numbers[0] if numbers else None


class BookTest(unittest.TestCase):
    def test_no_row_and_twelve(self):
        for width in WIDTHS:
            self.assertIs(is_book((width, ())), True)
            self.assertIs(is_book((width, (("*" * width, "go"),) * 12)), True)
            self.assertIs(is_book((width, (("*" * width, "go"),) * 13)), False)

    def test_all_forms(self):
        for width in WIDTHS:
            for form in all_forms(width):
                self.assertIs(is_book((width, ((form, "go"),))), True)

    def test_deeds(self):
        for given in ("a", "z", "abcdefgh", "zzzzzzzz", "hjklmnop", "qrstuvwx", "yi"):
            self.assertIs(is_book((1, (("*", given),))), True, given)

    def test_some_books(self):
        for book in some_books():
            self.assertIs(is_book(book), True, book)
            self.assertIsNone(need_book(book))

    def test_no_books(self):
        for thing in no_books():
            self.assertIs(is_book(thing), False, thing)
            with self.assertRaises(NoBook, msg=repr(thing)):
                need_book(thing)

    def test_what_is_handed_in_stays(self):
        for thing in no_books() + some_books():
            before = copy.deepcopy(thing)
            is_book(thing)
            self.assertEqual(repr(thing), repr(before))


class MetTest(unittest.TestCase):
    def test_plain(self):
        book = (2, (("01", "go"), ("0*", "stay"), ("*1", "go")))
        self.assertEqual([met(book, word) for word in all_words(2)], [1, 0, None, 2])
        self.assertEqual([deed(book, word) for word in all_words(2)], ["stay", "go", None, "go"])

    def test_no_row_fits_none(self):
        for width in WIDTHS:
            self.assertIsNone(met((width, ()), "0" * width))
            self.assertIsNone(deed((width, ()), "1" * width))

    def test_the_first_row_that_fits(self):
        for book in some_books():
            for word in all_words(book[0]):
                number = first_row(book, word)
                told = met(book, word)
                self.assertEqual(told, number, (book, word))
                self.assertIs(type(told), type(number))
                self.assertEqual(deed(book, word), None if number is None else book[1][number][1])

    def test_no_book_goes_first(self):
        for thing in no_books():
            for word in ("00", "0", "", "2", None, 5, ["0"], True):
                for told in (met, deed):
                    with self.assertRaises(NoBook, msg=repr(thing)):
                        told(thing, word)

    def test_no_word(self):
        for width in WIDTHS:
            row = ("*" * width, "go")
            wrong = ["0" * (width - 1), "0" * (width + 1), "*" * width, "0" * (width - 1) + "*", "2" + "0" * (width - 1),
                     "0" * (width - 1) + "\n", "0" * width + "\n", ["0"] * width, ("0",) * width, width]
            for book in ((width, (row,)), (width, ())):
                for word in wrong + things():
                    for told in (met, deed):
                        with self.assertRaises(NoWord, msg=repr(word)):
                            told(book, word)

    def test_a_refusal_changes_nothing(self):
        book = (1, (("0", "go"),))
        word = ["0"]
        with self.assertRaises(NoWord):
            deed(book, word)
        self.assertEqual(word, ["0"])
        self.assertEqual(deed(book, "0"), "go")


if __name__ == "__main__":
    unittest.main()
