"""Points 2, 6 and 22: rows and books as texts."""

import itertools
import random
import re
import unittest

from samples import WIDTHS, all_forms, no_books, random_book, refused, some_books, small_books, told
from starsieve.errors import NoBook, NoText
from starsieve.texts import read_book, show_book, show_row

BOOK = (2, (("0*", "go"), ("*1", "stay"), ("11", "abcdefgh")))
TEXT = "width 2\n0* go\n*1 stay\n11 abcdefgh\n"
SIGNS = "".join(chr(number) for number in range(32, 127)) + "\t\n"


def read_by_signs(text):
    """The book, or the number of the first row that isn't as it should be."""
    found = re.compile(r"width ([1-6])\n").match(text)
    if not found:
        return 0
    width, at, rows = int(found[1]), found.end(), []
    pattern = re.compile(r"([01*]{%d}) ([a-z]{1,8})\n" % width)
    while at < len(text):
        row = pattern.match(text, at)
        if not row or len(rows) == 12:
            return len(rows) + 1
        rows.append((row[1], row[2]))
        at = row.end()
    return (width, tuple(rows))


def text_of(book):
    text = "width " + str(book[0]) + "\n"
    for form, deed in book[1]:
        text += form + " " + deed + "\n"
    return text


def bent_signs(text, signs):
    """The text with one sign left out, exchanged or put in."""
    bent = []
    for at in range(len(text) + 1):
        bent += [text[:at] + sign + text[at:] for sign in signs]
        if at < len(text):
            bent += [text[:at] + sign + text[at + 1:] for sign in signs] + [text[:at] + text[at + 1:]]
    return bent


def bent_rows(text):
    """The text with a row left out, twice, empty, turned about, of another width, with a deed that is none, cut off."""
    rows = text.split("\n")[:-1]
    more = ["", " ", "0 a", "000 a", "0* ", "0*", " 0* go", "0*  go", "0* go ", "0* Go", "0* abcdefghi", "0* a b",
            "0*\tgo", "go 0*", "width 2", "0*  ", "* a", "0000000 a", "02 a", "0* 1", "*1 stay"]
    bent = []
    for at in range(len(rows) + 1):
        bent += [rows[:at] + [row] + rows[at:] for row in more]
        if at < len(rows):
            bent += [rows[:at] + [row] + rows[at + 1:] for row in more]
            bent += [rows[:at] + rows[at + 1:], rows[:at] + [rows[at]] + rows[at:], rows[at:at + 1] + rows]
    texts = ["".join(row + "\n" for row in given) for given in bent]
    return texts + [given[:-1] for given in texts] + [text[:at] for at in range(len(text))] + [text + text]


class ShowTest(unittest.TestCase):
    def test_plain(self):
        self.assertEqual(show_row(("0*", "go")), "0* go")
        self.assertEqual(show_book(BOOK), TEXT)
        for width in WIDTHS:
            self.assertEqual(show_book((width, ())), f"width {width}\n")

    def test_all_rows(self):
        for width in WIDTHS:
            for form in all_forms(width):
                self.assertEqual(told(self, show_row, (form, "abcdefgh")), form + " abcdefgh")

    def test_many_books(self):
        for book in some_books() + small_books():
            text = told(self, show_book, book)
            self.assertEqual(text, text_of(book))
            self.assertIs(type(text), str)

    def test_no_book(self):
        for thing in no_books():
            refused(self, NoBook, show_book, thing)


class ReadTest(unittest.TestCase):
    def look_over(self, text):
        right = read_by_signs(text)
        if type(right) is tuple:
            book = told(self, read_book, text)
            self.assertEqual(book, right, text)
            self.assertIs(type(book), tuple)
            self.assertIs(type(book[0]), int)
            self.assertIs(type(book[1]), tuple)
            self.assertTrue(all(type(row) is tuple for row in book[1]))
            return None
        with self.assertRaises(NoText, msg=repr(text)) as caught:
            told(self, read_book, text)
        self.assertIs(type(caught.exception), NoText)
        self.assertEqual(caught.exception.number, right, repr(text))
        self.assertIs(type(caught.exception.number), int)
        return right

    def refuses(self, text, number):
        self.assertEqual(self.look_over(text), number, repr(text))

    def test_plain(self):
        self.assertEqual(read_book(TEXT), BOOK)
        self.assertEqual(read_book("width 6\n"), (6, ()))

    def test_what_is_shown_is_read(self):
        for book in some_books() + small_books():
            for again in range(2):
                self.assertEqual(read_book(show_book(book)), book)

    def test_the_widths_row(self):
        for text in ("", "\n", " ", "width", "width\n", "width \n", "width 2", "width 0\n", "width 7\n", "width 02\n",
                     "width 2 \n", " width 2\n", "width  2\n", "Width 2\n", "width 2\t\n", "width 10\n", "width 22\n",
                     "width -2\n", "width +2\n", "width a\n", "width 2.\n", "width 2 2\n", "width2\n", "\nwidth 2\n",
                     "0* go\n", "width 200\n", "width 002\n", "width *\n", "width 00\n", "width\t2\n", "width 2\r"):
            self.refuses(text, 0)
            self.refuses(text + "x", 0)

    def test_the_first_wrong_row_is_told(self):
        self.refuses("width 2\n0* go\n*1 stay", 2)
        self.refuses("width 2\n0* go\n\n*1 stay\n", 2)
        self.refuses("width 2\n\n", 1)
        self.refuses("width 2\n0* go\n0 a\n0 b\n", 2)
        self.refuses("width 2\n0* Go\n0 a\n", 1)
        self.refuses("width 7\n0* Go\n", 0)
        self.refuses("width 2\n0* go\n ", 2)
        self.refuses("width 3\n0* go\n", 1)

    def test_twelve_rows_and_more(self):
        for width in WIDTHS:
            row = "*" * width + " a\n"
            head = f"width {width}\n"
            self.assertEqual(self.look_over(head + row * 12), None)
            for more in (row, row * 2, row[:-1], "x", "\n", "x\n", row + "x", " ", row * 8):
                self.refuses(head + row * 12 + more, 13)
            self.refuses(head + row * 11 + "x\n" + row * 2, 12)
            self.refuses(head + row * 12 + "\n\n", 13)

    def test_bent_once(self):
        seen = set()
        for text in bent_signs(TEXT, SIGNS) + bent_rows(TEXT):
            seen.add(self.look_over(text))
        self.assertEqual(seen, {None, 0, 1, 2, 3, 4})

    def test_bent_twice(self):
        chance = random.Random(121)
        seen = set()
        for book in some_books()[::4] + [BOOK]:
            for at in range(40):
                text = text_of(book)
                for bend in range(2):
                    signs = chance.sample("01*abz 29A-\t\n", 3)
                    bent = bent_signs(text, signs) if chance.random() < 0.6 else bent_rows(text)
                    text = chance.choice(bent)
                seen.add(self.look_over(text))
        self.assertLessEqual({None} | set(range(13)), seen)

    def test_all_short_texts(self):
        for many in range(5):
            for given in itertools.product("0 a\n", repeat=many):
                self.look_over("".join(given))
                self.look_over("width 1\n" + "".join(given))

    def test_books_of_twelve_rows_bent(self):
        chance = random.Random(122)
        for width in WIDTHS:
            text = text_of(random_book(chance, width, 12))
            for bent in chance.sample(bent_rows(text), 60) + chance.sample(bent_signs(text, " 0a\n"), 60):
                self.look_over(bent)


if __name__ == "__main__":
    unittest.main()
