"""A desk that is told rows of text, keeps a sieve by them, and answers with texts."""

from starsieve.errors import NoLine
from starsieve.fewest import fewest
from starsieve.forms import is_width
from starsieve.joins import press
from starsieve.lean import lean, needless
from starsieve.sieve import Sieve
from starsieve.texts import read_number, show_row

WORDS = {
    "width": ("number",),
    "put": ("number", "text", "text"),
    "out": ("number",),
    "move": ("number", "number"),
    "back": (),
    "deed": ("text",),
    "hidden": (),
    "needless": (),
    "lean": (),
    "press": (),
    "fewest": (),
}


def or_dash(told):
    """The word or the deed, or - for None."""
    return "-" if told is None else told


def numbers_told(numbers):
    """The numbers, a blank between, or none."""
    return " ".join([str(number) for number in numbers]) if numbers else "none"


def rows_told(rows):
    """The rows' texts, a comma between, or none."""
    return ",".join([show_row(row) for row in rows]) if rows else "none"


def say_put(sieve, given):
    """Puts a row in."""
    number, form, deed = given
    return or_dash(sieve.put(number, form, deed))


def say_out(sieve, given):
    """Takes a row out."""
    return or_dash(sieve.out(given[0]))


def say_move(sieve, given):
    """Moves a row."""
    return or_dash(sieve.move(given[0], given[1]))


def say_back(sieve, given):
    """Undoes the last change that stands."""
    return or_dash(sieve.back())


def say_deed(sieve, given):
    """Tells the deed of a word."""
    return or_dash(sieve.deed(given[0]))


def say_hidden(sieve, given):
    """Tells the hidden rows."""
    return numbers_told(sieve.hidden())


def say_needless(sieve, given):
    """Tells the rows of which each is needless by itself."""
    book = sieve.book()
    return numbers_told([number for number in range(len(book[1])) if needless(book, number)[0] == "needless"])


def say_lean(sieve, given):
    """Tells the rows of the book made lean."""
    return rows_told(lean(sieve.book())[1])


def say_press(sieve, given):
    """Tells the rows of the book pressed."""
    return rows_told(press(sieve.book())[1])


def say_fewest(sieve, given):
    """Tells the fewest rows that do the same."""
    return str(fewest(sieve.book())[0])


ANSWERS = {
    "put": say_put,
    "out": say_out,
    "move": say_move,
    "back": say_back,
    "deed": say_deed,
    "hidden": say_hidden,
    "needless": say_needless,
    "lean": say_lean,
    "press": say_press,
    "fewest": say_fewest,
}


def read_words(kinds, words):
    """What the words tell, one for each kind; refused with NoLine where they are not so."""
    if len(words) != len(kinds) or "" in words:
        raise NoLine("a row is its words with one blank between")
    given = [read_number(word) if kind == "number" else word for kind, word in zip(kinds, words)]
    if None in given:
        raise NoLine("a number is written by at most two figures, no 0 ahead")
    return given


class Desk:
    """Keeps the sieve that stands, or None."""

    def __init__(self):
        self.sieve = None

    def stand(self, width):
        """Lets a sieve of a book without rows stand."""
        if not is_width(width):
            raise NoLine(f"{width} is no width")
        self.sieve = Sieve((width, ()))
        return "ok"

    def say(self, row):
        """The answer to the row."""
        name, *words = row.split(" ")
        if name not in WORDS or (self.sieve is None and name != "width"):
            raise NoLine("there is no such row, or no sieve stands")
        given = read_words(WORDS[name], words)
        if name == "width":
            return self.stand(given[0])
        answer = ANSWERS[name]
        return answer(self.sieve, given)
