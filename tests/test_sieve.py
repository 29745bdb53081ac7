"""Points 2, 6, 7 and 21: a kept book, its changes, and the way back."""

import random
import unittest

from samples import (
    DEEDS, WIDTHS, all_words, deed_by_words, first_row, least_parting, no_books, no_rows, no_words, random_form,
    refused, some_books, small_books, things, told,
)
from starsieve.errors import Full, NoBook, NoForm, NoRow, NoWord, Nothing
from starsieve.sieve import Sieve

BOOK = (2, (("0*", "a"), ("*1", "b")))


def no_forms(width):
    """Things that are no form of the width."""
    forms = ["*" * (width - 1), "*" * (width + 1), "2" * width, "*" * (width - 1) + " ", "*" * width + "\n",
             "-" * width, ["*"] * width, ("*",) * width, width]
    return forms + [thing for thing in things() if type(thing) is not str or set(thing) - set("01*")]


def no_deeds():
    wrong = ["", "abcdefghi", "A", "aB", "a b", " a", "a ", "a\n", "a1", "-", "*", "a_b", "`", "{"]
    return wrong + [thing for thing in things() if type(thing) is not str]


def put_by_rows(book, number, form, deed):
    rows = list(book[1])
    rows.insert(number, (form, deed))
    return (book[0], tuple(rows))


def out_by_rows(book, number):
    return (book[0], tuple(row for at, row in enumerate(book[1]) if at != number))


def move_by_rows(book, number, place):
    rows = list(book[1])
    rows.insert(place, rows.pop(number))
    return (book[0], tuple(rows))


def hidden_by_words(book):
    met = {first_row(book, word) for word in all_words(book[0])}
    return [number for number in range(len(book[1])) if number not in met]


def random_change(chance, book):
    """A change of the book: its name, what is handed in, and the book behind it."""
    width, rows = book
    names = ["put", "put"] if len(rows) < 12 else []
    names += ["out", "move", "move"] if rows else []
    name = chance.choice(names)
    if name == "put":
        given = (chance.randrange(len(rows) + 1), random_form(chance, width, "01***"), chance.choice(DEEDS))
        return name, given, put_by_rows(book, *given)
    if name == "out":
        given = (chance.randrange(len(rows)),)
        return name, given, out_by_rows(book, *given)
    given = (chance.randrange(len(rows)), chance.randrange(len(rows)))
    return name, given, move_by_rows(book, *given)


class SieveTest(unittest.TestCase):
    def look_over(self, sieve, book, words=None):
        self.assertEqual(sieve.book(), book)
        self.assertIs(type(sieve.book()), tuple)
        self.assertIs(type(sieve.book()[1]), tuple)
        numbers = sieve.hidden()
        self.assertIs(type(numbers), list)
        self.assertEqual(numbers, hidden_by_words(book))
        for word in words or all_words(book[0]):
            self.assertEqual(sieve.deed(word), deed_by_words(book, word), (book, word))

    def change(self, sieve, name, given, book, after):
        word = told(self, getattr(sieve, name), *given)
        self.assertEqual(word, least_parting(book, after), (book, name, given))
        return word

    def test_plain(self):
        sieve = Sieve(BOOK)
        self.look_over(sieve, BOOK)
        self.assertEqual(sieve.put(0, "01", "c"), "01")
        self.assertEqual(sieve.book(), (2, (("01", "c"), ("0*", "a"), ("*1", "b"))))
        self.assertIsNone(sieve.put(3, "0*", "d"))
        self.assertEqual(sieve.hidden(), [3])
        self.assertEqual(sieve.move(1, 0), "01")
        self.assertEqual(sieve.book(), (2, (("0*", "a"), ("01", "c"), ("*1", "b"), ("0*", "d"))))
        self.assertEqual(sieve.hidden(), [1, 3])
        self.assertEqual(sieve.out(2), "11")
        self.assertIsNone(sieve.deed("11"))
        self.assertEqual(sieve.back(), "11")
        self.assertEqual(sieve.back(), "01")
        self.assertIsNone(sieve.back())
        self.assertEqual(sieve.back(), "01")
        self.look_over(sieve, BOOK)
        refused(self, Nothing, sieve.back)

    def test_made_of_many_books(self):
        for book in some_books() + small_books():
            sieve = told(self, Sieve, book)
            self.look_over(sieve, book)
            refused(self, Nothing, sieve.back)

    def test_a_row_moved_to_each_place(self):
        book = (2, (("00", "a"), ("01", "b"), ("10", "c"), ("11", "d")))
        for number in range(4):
            for place in range(4):
                sieve = Sieve(book)
                self.assertIsNone(sieve.move(number, place))
                self.look_over(sieve, move_by_rows(book, number, place))
                self.assertEqual(sieve.book()[1][place], book[1][number])
                self.assertIsNone(sieve.back())
                self.look_over(sieve, book)

    def test_a_row_put_in_at_each_number(self):
        for number in range(3):
            sieve = Sieve(BOOK)
            sieve.put(number, "1*", "c")
            self.look_over(sieve, put_by_rows(BOOK, number, "1*", "c"))

    def test_a_change_that_turns_nothing_stands(self):
        sieve = Sieve(BOOK)
        self.assertIsNone(sieve.move(1, 1))
        self.assertIsNone(sieve.move(0, 0))
        self.assertIsNone(sieve.back())
        self.assertIsNone(sieve.back())
        refused(self, Nothing, sieve.back)

    def test_long_rows_of_changes_and_all_the_way_back(self):
        chance = random.Random(111)
        for book in some_books()[::3]:
            sieve, done, now = Sieve(book), [], book
            for at in range(14):
                name, given, after = random_change(chance, now)
                done.append((now, self.change(sieve, name, given, now, after)))
                now = after
                self.look_over(sieve, now)
            while done:
                now, word = done.pop()
                self.assertEqual(sieve.back(), word)
                self.look_over(sieve, now)
            refused(self, Nothing, sieve.back)
            self.look_over(sieve, book)

    def test_changes_and_ways_back_mixed(self):
        chance = random.Random(112)
        turned = set()
        for book in some_books()[1::3]:
            sieve, done, now = Sieve(book), [], book
            for at in range(30):
                if done and chance.random() < 0.4:
                    now, word = done.pop()
                    self.assertEqual(sieve.back(), word)
                else:
                    name, given, after = random_change(chance, now)
                    done.append((now, self.change(sieve, name, given, now, after)))
                    turned.add((name, done[-1][1] is None))
                    now = after
                self.look_over(sieve, now, chance.sample(all_words(book[0]), 2))
        self.assertEqual(turned, {(name, none) for name in ("put", "out", "move") for none in (True, False)})

    def test_two_sieves_of_one_book(self):
        chance = random.Random(113)
        for book in some_books()[::9]:
            one, other, now = Sieve(book), Sieve(book), book
            for at in range(6):
                name, given, now = random_change(chance, now)
                getattr(one, name)(*given)
                self.look_over(other, book)
                refused(self, Nothing, other.back)
            self.look_over(one, now)

    def test_told_lists_are_the_askers_own(self):
        sieve = Sieve((1, (("*", "a"),) * 3))
        numbers = sieve.hidden()
        numbers.append(7)
        numbers[0] = 0
        self.assertEqual(sieve.hidden(), [1, 2])
        sieve.out(0)
        sieve.hidden().clear()
        self.assertEqual(sieve.hidden(), [1])


class RefusalTest(unittest.TestCase):
    def stays(self, sieve, error, name, *given):
        """That a refusal leaves all as it was, the changes that stand too."""
        book = sieve.book()
        refused(self, error, getattr(sieve, name), *given)
        self.assertEqual(sieve.book(), book)

    def test_no_book(self):
        for thing in no_books():
            refused(self, NoBook, Sieve, thing)

    def test_no_word(self):
        for width in WIDTHS:
            for rows in ((), (("*" * width, "a"),)):
                sieve = Sieve((width, rows))
                for word in no_words(width):
                    self.stays(sieve, NoWord, "deed", word)

    def test_no_row(self):
        for many in (0, 1, 2, 11, 12):
            sieve = Sieve((2, (("0*", "a"), ("*1", "b")) * 6))
            for number in reversed(range(many, 12)):
                sieve.out(number)
            for number in no_rows(many):
                self.stays(sieve, NoRow, "out", number)
                self.stays(sieve, NoRow, "move", number, 0)
                self.stays(sieve, NoRow, "move", 0, number)
                self.stays(sieve, NoRow, "move", number, number)
                if type(number) is not int or number != many:
                    self.stays(sieve, NoRow, "put", number, "0*", "a")
            for undone in range(12 - many):
                sieve.back()
            self.stays(sieve, Nothing, "back")

    def test_no_row_goes_ahead_of_no_form_and_full(self):
        for many in (0, 3, 12):
            sieve = Sieve((2, (("0*", "a"),) * many))
            for number in (-1, many + 1, True, False, "0", None, [0]):
                for form, deed in (("0*", "a"), ("0", "a"), ("0*", ""), (None, None)):
                    self.stays(sieve, NoRow, "put", number, form, deed)

    def test_no_form_goes_ahead_of_full(self):
        for width in WIDTHS:
            for many in (0, 3, 12):
                sieve = Sieve((width, (("*" * width, "a"),) * many))
                for form in no_forms(width):
                    self.stays(sieve, NoForm, "put", 0, form, "a")
                    self.stays(sieve, NoForm, "put", many, form, "")
                for deed in no_deeds():
                    self.stays(sieve, NoForm, "put", many, "*" * width, deed)

    def test_full(self):
        for width in WIDTHS:
            sieve = Sieve((width, (("0" * width, "a"),) * 11))
            sieve.put(11, "1" * width, "b")
            for number in range(13):
                self.stays(sieve, Full, "put", number, "*" * width, "b")
            self.assertIsNone(sieve.move(11, 0))
            self.assertIsNone(sieve.out(1))
            word = None if width == 1 else "0" * (width - 1) + "1"
            self.assertEqual(sieve.put(11, "*" * width, "c"), word)

    def test_what_stands_is_undone_behind_refusals(self):
        sieve = Sieve(BOOK)
        sieve.put(0, "00", "c")
        for error, name, given in ((NoRow, "out", (3,)), (NoRow, "move", (0, 3)), (NoForm, "put", (0, "0", "a")),
                                   (NoRow, "put", (4, "00", "a")), (NoWord, "deed", ("0",))):
            self.stays(sieve, error, name, *given)
        self.assertEqual(sieve.back(), "00")
        self.assertEqual(sieve.book(), BOOK)
        self.stays(sieve, Nothing, "back")
        self.stays(sieve, Nothing, "back")
        self.assertEqual(sieve.out(0), "00")


if __name__ == "__main__":
    unittest.main()
