"""Rows and books as texts."""

from starsieve.books import MOST_ROWS, is_row, need_book
from starsieve.errors import NoText
from starsieve.forms import is_width

FIGURES = "0123456789"


def show_row(row):
    """The row as a text: its form, a blank, its deed."""
    form, deed = row
    return f"{form} {deed}"


def show_book(book):
    """The book as a text: its width, then its rows, each ended by a line feed."""
    need_book(book)
    width, rows = book
    lines = [f"width {width}"] + [show_row(row) for row in rows]
    return "".join([line + "\n" for line in lines])


def read_number(text):
    """The number that the text writes by at most two figures, no 0 ahead, or None."""
    if not 1 <= len(text) <= 2 or not all([sign in FIGURES for sign in text]):
        return None
    if len(text) == 2 and text[0] == "0":
        return None
    return int(text)


def read_width(line):
    """The width that the line tells, or None."""
    words = line.split(" ")
    if len(words) != 2 or words[0] != "width":
        return None
    number = read_number(words[1])
    return number if is_width(number) else None


def read_row(width, line):
    """The row of a book of the width that the line tells, or None."""
    row = tuple(line.split(" "))
    return row if is_row(width, row) else None


def read_book(text):
    """The book that the text tells."""
    *lines, unended = text.split("\n")
    width = read_width(lines[0]) if lines else None
    if width is None:
        raise NoText(0)
    rows = []
    for number, line in enumerate(lines[1:], start=1):
        row = read_row(width, line)
        if row is None or number > MOST_ROWS:
            raise NoText(number)
        rows.append(row)
    if unended:
        raise NoText(len(lines))
    return (width, tuple(rows))
