"""Points 2, 6, 7 and 12: rows that a book can do without."""

import random
import unittest

from samples import (
    WIDTHS, books_that_do_the_same, cut, is_made, is_right, lean_by_words, least_parting, no_books, no_rows,
    random_book, refused, row_is_met, small_books, some_books, told, words_of,
)
from starsieve.errors import NoBook, NoRow
from starsieve.lean import lean, needless, without

BOOK = (2, (("01", "a"), ("0*", "a"), ("00", "b"), ("*1", "b"), ("11", "b")))


def rich_books():
    """Books of which some rows are needless, hidden or not, beside the others."""
    chance = random.Random(51)
    grown = [chance.choice(books_that_do_the_same(book)) for book in some_books()]
    plain = [random_book(chance, width, many, "01****", ("a",)) for width in WIDTHS for many in (2, 5, 8, 12)]
    twice = [(width, rows[:6] + rows[:6]) for width, rows in some_books()]
    turned = [(width, rows[:6] + rows[5::-1]) for width, rows in some_books()]
    return some_books() + small_books() + grown + plain + twice + turned + [BOOK]


def shows_needless(book, number, tree):
    """Whether a tree is right of the book and the book without the row, and the deeds are the same."""
    one, other = book[1], cut(book, number)[1]

    def is_leaf(leaf, box):
        name, k, l = leaf
        if not row_is_met(one, k, box) or not row_is_met(other, l, box):
            return False
        return (k is None and l is None) or (k is not None and l is not None and one[k][1] == other[l][1])
    return is_right(tree, words_of("*" * book[0]), is_leaf)


class NeedlessTest(unittest.TestCase):
    def test_plain(self):
        names = [needless(BOOK, number)[0] for number in range(5)]
        self.assertEqual(names, ["needless", "needed", "needless", "needless", "needless"])
        self.assertEqual(needless(BOOK, 1), ("needed", "00"))
        self.assertEqual(needless((2, (("*1", "b"),)), 0), ("needed", "01"))

    def test_rows_behind_are_numbered_anew(self):
        book = (1, (("0", "a"), ("*", "a")))
        self.assertTrue(shows_needless(book, 0, ("split", 0, ("same", 0, 0), ("same", 1, 0))))
        name, tree = needless(book, 0)
        self.assertEqual(name, "needless")
        self.assertTrue(shows_needless(book, 0, tree), tree)

    def test_against_all_words(self):
        seen = set()
        for book in rich_books():
            for number in range(len(book[1])):
                word = least_parting(book, cut(book, number))
                for again in range(2):
                    answer = told(self, needless, book, number)
                    self.assertIs(type(answer), tuple)
                    if word is not None:
                        self.assertEqual(answer, ("needed", word), (book, number))
                    else:
                        self.assertEqual(answer[0], "needless", (book, number))
                        self.assertEqual(len(answer), 2)
                        self.assertTrue(is_made(answer[1], "same", 2), answer)
                        self.assertTrue(shows_needless(book, number, answer[1]), (book, number, answer))
                seen.add(answer[0])
        self.assertEqual(seen, {"needed", "needless"})


class WithoutTest(unittest.TestCase):
    def test_plain(self):
        self.assertEqual(without(BOOK, 0), (2, (("0*", "a"), ("00", "b"), ("*1", "b"), ("11", "b"))))
        self.assertEqual(without(BOOK, 4), (2, (("01", "a"), ("0*", "a"), ("00", "b"), ("*1", "b"))))
        self.assertEqual(without((3, (("0**", "a"),)), 0), (3, ()))

    def test_each_row(self):
        for book in rich_books():
            for number in range(len(book[1])):
                left = told(self, without, book, number)
                self.assertEqual(left, cut(book, number))
                self.assertIs(type(left), tuple)
                self.assertIs(type(left[1]), tuple)


class LeanTest(unittest.TestCase):
    def test_plain(self):
        self.assertEqual(lean(BOOK), (2, (("0*", "a"), ("*1", "b"))))

    def test_the_last_goes_first(self):
        row, other = ("0*", "a"), ("00", "a")
        self.assertEqual(lean((2, (row, row, row))), (2, (row,)))
        self.assertEqual(lean((2, (row, other))), (2, (row,)))
        self.assertEqual(lean((2, (other, row))), (2, (row,)))
        self.assertEqual(lean((2, (("0*", "a"), ("*0", "a"), ("00", "b"), ("10", "a"), ("01", "a")))),
                         (2, (("0*", "a"), ("*0", "a"))))
        crossing = (("*1", "a"), ("1*", "a"))
        self.assertEqual(lean((2, crossing + (("10", "a"), ("01", "a")))), (2, crossing))

    def test_no_rows(self):
        for width in WIDTHS:
            self.assertEqual(lean((width, ())), (width, ()))

    def test_rows_told_twice(self):
        for width in WIDTHS:
            row = ("*" * width, "a")
            self.assertEqual(lean((width, (row,) * 12)), (width, (row,)))

    def test_against_taking_out_from_the_last_row_on(self):
        for book in rich_books():
            for again in range(2):
                left = told(self, lean, book)
                self.assertEqual(left, lean_by_words(book), book)
                self.assertIs(type(left), tuple)
                self.assertIs(type(left[1]), tuple)

    def test_alike_and_without_needless_rows(self):
        for book in rich_books():
            left = lean(book)
            self.assertIsNone(least_parting(book, left), book)
            for number in range(len(left[1])):
                self.assertIsNotNone(least_parting(left, cut(left, number)), (book, number))
                self.assertEqual(needless(left, number)[0], "needed", (book, number))
            self.assertEqual(lean(left), left)


class RefusalTest(unittest.TestCase):
    def test_no_book_goes_first(self):
        for thing in no_books():
            refused(self, NoBook, lean, thing)
            for number in (0, 1, -1, 12, True, None, "0", [0]):
                refused(self, NoBook, needless, thing, number)
                refused(self, NoBook, without, thing, number)

    def test_no_row(self):
        for many in (0, 1, 2, 12):
            book = (2, (("**", "a"),) * many)
            for number in no_rows(many):
                refused(self, NoRow, needless, book, number)
                refused(self, NoRow, without, book, number)


if __name__ == "__main__":
    unittest.main()
