"""A kept book, changed row by row, that tells what each change turned and goes back."""

from starsieve.alike import parting_word
from starsieve.books import MOST_ROWS, deed_of, is_deed, met, need_book, need_row
from starsieve.errors import Full, NoForm, NoRow, Nothing
from starsieve.forms import is_form, is_place
from starsieve.lean import without
from starsieve.reached import hidden


class Sieve:
    """Keeps a book, and all that it was ahead of the changes that stand."""

    def __init__(self, book):
        need_book(book)
        self.books = [book]

    def book(self):
        """The book as it is now."""
        return self.books[-1]

    def deed(self, word):
        """The deed of the word, or None."""
        return deed_of(self.book(), met(self.book(), word))

    def hidden(self):
        """The numbers of all rows that no word meets, rising."""
        return hidden(self.book())

    def turn(self, rows):
        """Makes these the book's rows; the least word whose deed this turned, or None."""
        before = self.book()
        self.books.append((before[0], rows))
        return parting_word(before, self.book())

    def put(self, number, form, deed):
        """Puts a row in ahead of the row of the number, or behind all; the least word whose deed it turned, or None."""
        width, rows = self.book()
        if not is_place(len(rows) + 1, number):
            raise NoRow(f"a row is put in at a number from 0 to {len(rows)}")
        if not is_form(width, form) or not is_deed(deed):
            raise NoForm(f"a row has a form of width {width} and a deed of one to eight small letters")
        if len(rows) >= MOST_ROWS:
            raise Full(f"the book has {MOST_ROWS} rows")
        return self.turn(rows[:number] + ((form, deed),) + rows[number:])

    def out(self, number):
        """Takes the row of the number out; the least word whose deed it turned, or None."""
        return self.turn(without(self.book(), number)[1])

    def move(self, number, place):
        """Moves the row of the number so that it stands at the place; the least word whose deed it turned, or None."""
        need_row(self.book(), number)
        need_row(self.book(), place)
        row = self.book()[1][number]
        others = without(self.book(), number)[1]
        return self.turn(others[:place] + (row,) + others[place:])

    def back(self):
        """Undoes the last change that stands; the least word whose deed this turned, or None."""
        if len(self.books) == 1:
            raise Nothing("no change stands")
        undone = self.books.pop()
        return parting_word(undone, self.book())
