"""Points 2, 5, 6, 7, 12, 15 and 16: rows joined, and books pressed."""

import itertools
import random
import unittest

from samples import (
    WIDTHS, all_words, do_the_same, first_row, joined_by_words, joins_by_words, lean_by_words, least_parting, no_books,
    no_rows, press_by_words, refused, rich_books, split_rows, told,
)
from starsieve.errors import NoBook, NoJoin, NoRow, Turned
from starsieve.joins import join, joins, press
from starsieve.lean import needless

BOOK = (2, (("00", "a"), ("01", "a"), ("1*", "b"), ("10", "b"), ("*1", "c")))


def books_to_join():
    """Books of which many rows may be joined, or nearly, beside the others."""
    chance = random.Random(71)
    books = rich_books(72)
    for book in rich_books(73):
        for again in range(3):
            parted = [other for other in split_rows(book) if len(other[1]) <= 12]
            book = chance.choice(parted) if parted else book
        rows = list(book[1])
        chance.shuffle(rows)
        books += [book, (book[0], tuple(rows))]
    return books + [BOOK]


class JoinsTest(unittest.TestCase):
    def test_plain(self):
        self.assertEqual(joins(BOOK), [(0, 1, 0), (0, 1, 1), (2, 3, 2), (2, 3, 3)])
        self.assertEqual(joins((2, (("00", "a"), ("0*", "b"), ("01", "a")))), [])
        self.assertEqual(joins((2, (("00", "a"), ("*1", "b"), ("01", "a")))), [(0, 2, 2)])
        self.assertEqual(joins((2, (("00", "a"), ("01", "b"), ("11", "b")))), [(1, 2, 1), (1, 2, 2)])
        self.assertEqual(joins((2, (("1*", "a"), ("*0", "b"), ("11", "a")))), [(0, 2, 0)])
        self.assertEqual(joins((2, (("00", "a"), ("0*", "a")))), [(0, 1, 0), (0, 1, 1)])
        self.assertEqual(joins((2, (("0*", "a"), ("*1", "a")))), [])
        self.assertEqual(joins((2, (("00", "a"), ("01", "b")))), [])
        self.assertEqual(joins((1, (("*", "a"),) * 2)), [(0, 1, 0), (0, 1, 1)])

    def test_none_and_one(self):
        for width in WIDTHS:
            self.assertEqual(joins((width, ())), [])
            self.assertEqual(joins((width, (("*" * width, "a"),))), [])

    def test_against_all_tuples(self):
        seen = set()
        for book in books_to_join():
            found = told(self, joins, book)
            self.assertIs(type(found), list)
            self.assertTrue(all(type(given) is tuple and len(given) == 3 for given in found))
            self.assertTrue(all(type(number) is int for given in found for number in given))
            self.assertEqual(found, joins_by_words(book), book)
            seen.add((book[0], bool(found)))
        self.assertEqual(seen, {(width, right) for width in WIDTHS for right in (True, False)})

    def test_a_told_list_is_the_askers_own(self):
        for book in books_to_join()[::9]:
            found = joins(book)
            found.append((7, 8, 9))
            del found[0]
            self.assertEqual(joins(book), joins_by_words(book))


class JoinTest(unittest.TestCase):
    def look_over(self, book, one, other, at):
        made = joined_by_words(book, one, other, at)
        if made is None:
            refused(self, NoJoin, join, book, one, other, at)
            return NoJoin
        word = least_parting(book, made)
        if word is None:
            answer = told(self, join, book, one, other, at)
            self.assertEqual(answer, made, (book, one, other, at))
            self.assertIs(type(answer), tuple)
            self.assertIs(type(answer[1]), tuple)
            return None
        with self.assertRaises(Turned) as caught:
            told(self, join, book, one, other, at)
        self.assertEqual(caught.exception.word, word, (book, one, other, at))
        return Turned

    def test_plain(self):
        self.assertEqual(join(BOOK, 0, 1, 0), (2, (("0*", "a"), ("1*", "b"), ("10", "b"), ("*1", "c"))))
        self.assertEqual(join(BOOK, 2, 3, 3), (2, (("00", "a"), ("01", "a"), ("1*", "b"), ("*1", "c"))))
        between = (2, (("00", "a"), ("*1", "b"), ("01", "a")))
        self.assertEqual(join(between, 0, 2, 2), (2, (("*1", "b"), ("0*", "a"))))
        with self.assertRaises(Turned) as caught:
            join(between, 0, 2, 0)
        self.assertEqual(caught.exception.word, "01")

    def test_the_least_turned_word_is_told(self):
        book = (3, (("0**", "b"), ("*0*", "c"), ("1**", "b")))
        with self.assertRaises(Turned) as caught:
            join(book, 0, 2, 0)
        self.assertEqual(caught.exception.word, "100")
        with self.assertRaises(Turned) as caught:
            join(book, 0, 2, 2)
        self.assertEqual(caught.exception.word, "000")

    def test_each_of_all_tuples(self):
        seen = set()
        for book in books_to_join():
            many = range(len(book[1]))
            for one, other in itertools.product(many, repeat=2):
                for at in (one, other):
                    if one == other or (one + other) % 3 == 0 or joined_by_words(book, one, other, at):
                        seen.add((book[0], self.look_over(book, one, other, at)))
        self.assertEqual(seen, {(width, name) for width in WIDTHS for name in (None, NoJoin, Turned)})

    def test_all_numbers_of_small_books(self):
        for book in ((1, (("0", "a"), ("1", "a"), ("*", "a"))), (2, (("00", "a"), ("*1", "b"), ("01", "a")))):
            for one, other, at in itertools.product(range(3), repeat=3):
                if at in (one, other):
                    self.look_over(book, one, other, at)
                else:
                    refused(self, NoRow, join, book, one, other, at)


class PressTest(unittest.TestCase):
    def test_plain(self):
        self.assertEqual(press(BOOK), (2, (("0*", "a"), ("1*", "b"))))
        self.assertEqual(press((2, tuple((word, "a") for word in all_words(2)))), (2, (("**", "a"),)))

    def test_no_rows_and_the_same_row_told_twice(self):
        for width in WIDTHS:
            self.assertEqual(press((width, ())), (width, ()))
            self.assertEqual(press((width, (("*" * width, "a"),) * 12)), (width, (("*" * width, "a"),)))

    def test_a_lean_book_is_joined_again(self):
        again = [book for book in books_to_join() if joins_by_words(self.pressed_once(book))]
        for book in again:
            self.assertEqual(press(book), press_by_words(book))
        self.assertTrue(again)

    def pressed_once(self, book):
        while joins_by_words(book):
            book = joined_by_words(book, *joins_by_words(book)[0])
        return lean_by_words(book)

    def test_against_joining_the_first_and_making_lean(self):
        for book in books_to_join():
            pressed = told(self, press, book)
            self.assertEqual(pressed, press_by_words(book), book)
            self.assertIs(type(pressed), tuple)
            self.assertIs(type(pressed[1]), tuple)

    def test_what_holds_of_pressed_books(self):
        for book in books_to_join():
            pressed = press(book)
            self.assertTrue(do_the_same(book, pressed), book)
            self.assertEqual(joins(pressed), [])
            met = {first_row(pressed, word) for word in all_words(pressed[0])}
            for number in range(len(pressed[1])):
                self.assertIn(number, met)
                self.assertEqual(needless(pressed, number)[0], "needed")
            self.assertEqual(press(pressed), pressed)


class RefusalTest(unittest.TestCase):
    def test_no_book_goes_first(self):
        for thing in no_books():
            refused(self, NoBook, joins, thing)
            refused(self, NoBook, press, thing)
            for one, other, at in ((0, 1, 0), (1, 0, 5), (-1, True, None), ("0", [0], 0)):
                refused(self, NoBook, join, thing, one, other, at)

    def test_no_row(self):
        for many in (0, 1, 2, 3, 12):
            book = (2, (("0*", "a"), ("*0", "b"), ("0*", "a")) * 4)
            book = (2, book[1][:many])
            for number in no_rows(many):
                for one, other, at in ((number, 1, 1), (number, 0, number), (0, number, 0), (0, number, number),
                                       (0, 1, number), (1, 0, number), (0, 0, number), (number, number, 0),
                                       (number, number, number), (0, number, -1), (number, 1, None), (2, 0, number)):
                    refused(self, NoRow, join, book, one, other, at)

    def test_an_at_that_is_none_of_both(self):
        book = (1, (("0", "a"), ("1", "a"), ("*", "a")))
        for one, other, at in ((0, 1, 2), (0, 2, 1), (1, 2, 0), (1, 0, 2), (0, 0, 1), (2, 2, 0)):
            refused(self, NoRow, join, book, one, other, at)

    def test_truths_are_no_numbers(self):
        book = (1, (("0", "a"), ("1", "a"), ("*", "a")))
        self.assertEqual(join(book, 0, 1, 1), (1, (("*", "a"), ("*", "a"))))
        for one, other, at in ((False, 1, 1), (0, True, 1), (0, 1, True), (0, 1, False), (False, True, False)):
            refused(self, NoRow, join, book, one, other, at)

    def test_no_join_goes_ahead_of_turned(self):
        book = (2, (("00", "a"), ("*1", "b"), ("01", "a"), ("11", "a"), ("0*", "b"), ("00", "b")))
        for one, other, at in ((2, 0, 0), (2, 0, 2), (0, 0, 0), (0, 3, 0), (0, 3, 3), (0, 5, 0), (2, 4, 4), (1, 4, 1)):
            refused(self, NoJoin, join, book, one, other, at)


if __name__ == "__main__":
    unittest.main()
