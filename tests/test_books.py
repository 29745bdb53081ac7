"""Points 2, 6 and 7: what a book is, and which row a word meets."""

import copy
import unittest

from samples import WIDTHS, all_forms, all_words, first_row, no_books, no_words, some_books
from starsieve.books import deed, is_book, met, need_book
from starsieve.errors import NoBook, NoWord


class BookTest(unittest.TestCase):
    def test_no_row_and_twelve(self):
        for width in WIDTHS:
            self.assertIs(is_book((width, ())), True)
            self.assertIs(is_book((width, (("*" * width, "go"),) * 12)), True)
            self.assertIs(is_book((width, (("*" * width, "go"),) * 13)), False)

    def test_all_forms(self):
        for width in WIDTHS:
            for form in all_forms(width):
                self.assertIs(is_book((width, ((form, "go"),))), True)

    def test_deeds(self):
        for given in ("a", "z", "abcdefgh", "zzzzzzzz", "hjklmnop", "qrstuvwx", "yi"):
            self.assertIs(is_book((1, (("*", given),))), True, given)

    def test_some_books(self):
        for book in some_books():
            self.assertIs(is_book(book), True, book)
            self.assertIsNone(need_book(book))

    def test_no_books(self):
        for thing in no_books():
            self.assertIs(is_book(thing), False, thing)
            with self.assertRaises(NoBook, msg=repr(thing)):
                need_book(thing)

    def test_what_is_handed_in_stays(self):
        for thing in no_books() + some_books():
            before = copy.deepcopy(thing)
            is_book(thing)
            self.assertEqual(repr(thing), repr(before))


class MetTest(unittest.TestCase):
    def test_plain(self):
        book = (2, (("01", "go"), ("0*", "stay"), ("*1", "go")))
        self.assertEqual([met(book, word) for word in all_words(2)], [1, 0, None, 2])
        self.assertEqual([deed(book, word) for word in all_words(2)], ["stay", "go", None, "go"])

    def test_no_row_fits_none(self):
        for width in WIDTHS:
            self.assertIsNone(met((width, ()), "0" * width))
            self.assertIsNone(deed((width, ()), "1" * width))

    def test_the_first_row_that_fits(self):
        for book in some_books():
            for word in all_words(book[0]):
                number = first_row(book, word)
                told = met(book, word)
                self.assertEqual(told, number, (book, word))
                self.assertIs(type(told), type(number))
                self.assertEqual(deed(book, word), None if number is None else book[1][number][1])

    def test_no_book_goes_first(self):
        for thing in no_books():
            for word in ("00", "0", "", "2", None, 5, ["0"], True):
                for told in (met, deed):
                    with self.assertRaises(NoBook, msg=repr(thing)):
                        told(thing, word)

    def test_no_word(self):
        for width in WIDTHS:
            row = ("*" * width, "go")
            for book in ((width, (row,)), (width, ())):
                for word in no_words(width):
                    for told in (met, deed):
                        with self.assertRaises(NoWord, msg=repr(word)):
                            told(book, word)

    def test_a_refusal_changes_nothing(self):
        book = (1, (("0", "go"),))
        word = ["0"]
        with self.assertRaises(NoWord):
            deed(book, word)
        self.assertEqual(word, ["0"])
        self.assertEqual(deed(book, "0"), "go")


if __name__ == "__main__":
    unittest.main()
