"""Points 2 and 23: a desk that is told rows of text."""

import itertools
import random
import re
import unittest

from samples import (
    DEEDS, WIDTHS, all_words, cut, deed_by_words, do_the_same, first_row, lean_by_words, least_parting,
    number_by_search, press_by_words, random_form, refused, told, wanted_by_words,
)
from starsieve.desk import Desk
from starsieve.errors import Full, NoForm, NoLine, NoRow, NoWord, Nothing, TooMany

NUMBER = "(0|[1-9][0-9]?)"
TEXT = "([^ ]+)"
ROWS = {
    "width": f"width {NUMBER}", "put": f"put {NUMBER} {TEXT} {TEXT}", "out": f"out {NUMBER}",
    "move": f"move {NUMBER} {NUMBER}", "back": "back", "deed": f"deed {TEXT}", "hidden": "hidden",
    "needless": "needless", "lean": "lean", "press": "press", "fewest": "fewest",
}
NO_LINES = [
    "", " ", "\n", "width", "width ", "width 0", "width 7", "width 12", "width 99", "width 02", "width 100",
    "width a", "width 2 ", " width 2", "width  2", "width 2 2", "width -1", "width 2\n", "width 2\t", "Width 2",
    "width +2", "width\t2", "put", "put 0", "put 0 0*", "put 0 0* a b", "put 0 0* a ", " put 0 0* a", "put  0 0* a",
    "put 0  0* a", "put 0 0*  a", "put 00 0* a", "put 01 0* a", "put 100 0* a", "put a 0* a", "put -1 0* a",
    "put 0\n 0* a", "put 0\t0* a", "put * 0* a", "put  0* a", "put 0 0* ", "puts 0 0* a", "PUT 0 0* a", "put 1. 0* a",
    "put +1 0* a", "put 0_ 0* a", "out", "out ", "out 00", "out 01", "out 100", "out x", "out 0 0", "out 0 ",
    " out 0", "out  0", "out -0", "out 0\n", "out\t0", "Out 0", "out 0a", "out 1\t", "out 0,", "move", "move 0",
    "move 0 ", "move 0 1 2", "move 00 1", "move 0 01", "move 0 100", "move 100 0", "move a 0", "move 0 a",
    "move  0 1", "move 0  1", "move 0 1 ", " move 0 1", "move 0 1\n", "move 0\n1", "move 0,1", "back ", " back",
    "back 1", "back\n", "back\t", "backs", "Back", "bac", "deed", "deed ", "deed 00 ", "deed  00", "deed 00 11",
    " deed 00", "Deed 00", "deed\t00", "hidden ", " hidden", "hidden 0", "hidden\n", "needless ", "needless 0",
    "needless\t", "lean ", "lean 1", " lean", "lean\n", "press ", "press 1", "press.", "fewest ", "fewest 1",
    "fewest\n", "none", "ok", "-", "sieve", "help", "quit", "book", "width 2\nput 0 0* a", "back back",
    "hidden needless", "deeds 00",
]


class ModelDesk:
    """The desk again, by all words and by patterns."""

    def __init__(self):
        self.book, self.ahead = None, []

    def turn(self, rows):
        self.ahead.append(self.book)
        self.book = (self.book[0], tuple(rows))
        return least_parting(self.ahead[-1], self.book) or "-"

    def say(self, row):
        """The answer, or the refusal."""
        name = row.split(" ")[0]
        found = re.fullmatch(ROWS[name], row) if name in ROWS else None
        if not found or (name != "width" and self.book is None) or (name == "width" and not 1 <= int(found[1]) <= 6):
            return NoLine
        return getattr(self, name)(*found.groups())

    def width(self, width):
        self.book, self.ahead = (int(width), ()), []
        return "ok"

    def put(self, number, form, deed):
        width, rows = self.book
        if int(number) > len(rows):
            return NoRow
        if not re.fullmatch("[01*]{%d}" % width, form) or not re.fullmatch("[a-z]{1,8}", deed):
            return NoForm
        if len(rows) == 12:
            return Full
        return self.turn(rows[:int(number)] + ((form, deed),) + rows[int(number):])

    def out(self, number):
        return self.turn(cut(self.book, int(number))[1]) if int(number) < len(self.book[1]) else NoRow

    def move(self, number, place):
        if max(int(number), int(place)) >= len(self.book[1]):
            return NoRow
        rows = list(self.book[1])
        rows.insert(int(place), rows.pop(int(number)))
        return self.turn(rows)

    def back(self):
        if not self.ahead:
            return Nothing
        undone, self.book = self.book, self.ahead.pop()
        return least_parting(undone, self.book) or "-"

    def deed(self, word):
        return (deed_by_words(self.book, word) or "-") if word in all_words(self.book[0]) else NoWord

    def hidden(self):
        met = [first_row(self.book, word) for word in all_words(self.book[0])]
        return " ".join(str(number) for number in range(len(self.book[1])) if number not in met) or "none"

    def needless(self):
        numbers = range(len(self.book[1]))
        return " ".join(str(number) for number in numbers if do_the_same(self.book, cut(self.book, number))) or "none"

    def lean(self):
        return ",".join(form + " " + deed for form, deed in lean_by_words(self.book)[1]) or "none"

    def press(self):
        return ",".join(form + " " + deed for form, deed in press_by_words(self.book)[1]) or "none"

    def fewest(self):
        if self.book[0] > 4 or len(wanted_by_words(self.book)) > 6:
            return TooMany
        return str(number_by_search(self.book))


def random_row(chance, width, many):
    """A row, mostly right."""
    name = chance.choice(["put"] * 5 + ["move"] + list(ROWS)[2:])
    number, place = [str(chance.randrange(many + 2)) for at in range(2)]
    if name == "put":
        form = random_form(chance, width + (chance.random() < 0.05), chance.choice(("01", "01*", "01***")))
        return f"put {number} {form} {chance.choice(DEEDS + ('b', 'b', 'B'))}"
    if name == "deed":
        return "deed " + random_form(chance, width, "01" if chance.random() < 0.9 else "01*")
    return name + {"out": f" {number}", "move": f" {number} {place}"}.get(name, "")


class DeskTest(unittest.TestCase):
    def ask(self, desk, model, row):
        right = model.say(row)
        if type(right) is not str:
            refused(self, right, desk.say, row)
        else:
            answer = told(self, desk.say, row)
            self.assertEqual(answer, right, (model.book, row))
            self.assertIs(type(answer), str)
        return right

    def all_said(self, rows):
        desk, model = Desk(), ModelDesk()
        return [self.ask(desk, model, row) for row in rows]

    def says(self, rows):
        """Rows with what is to be answered, told to one desk."""
        desk, model = Desk(), ModelDesk()
        for row, answer in rows:
            self.assertEqual(self.ask(desk, model, row), answer, row)

    def test_plain(self):
        self.says([
            ("width 2", "ok"), ("hidden", "none"), ("needless", "none"), ("lean", "none"), ("press", "none"),
            ("fewest", "0"), ("back", Nothing), ("put 0 0* go", "00"), ("put 1 01 stay", "-"), ("hidden", "1"),
            ("put 2 00 go", "-"), ("hidden", "1 2"), ("needless", "1 2"), ("lean", "0* go"), ("move 1 0", "01"),
            ("deed 01", "stay"), ("deed 11", "-"), ("lean", "01 stay,0* go"), ("press", "01 stay,0* go"),
            ("fewest", "2"), ("out 0", "01"), ("deed 01", "go"), ("back", "01"), ("deed 01", "stay"), ("back", "01"),
            ("back", "-"), ("back", "-"), ("back", "00"), ("back", Nothing), ("deed 00", "-"),
        ])

    def test_pressed_rows(self):
        self.says([
            ("width 2", "ok"), ("put 0 00 a", "00"), ("put 1 01 a", "01"), ("put 2 11 b", "11"),
            ("lean", "00 a,01 a,11 b"), ("press", "0* a,11 b"), ("lean", "00 a,01 a,11 b"), ("fewest", "2"),
            ("needless", "none"), ("hidden", "none"), ("back", "11"), ("press", "0* a"),
        ])

    def test_deeds_called_like_the_rows(self):
        rows = [("width 2", "ok"), ("put 0 00 none", "00"), ("put 1 01 back", "01"), ("put 2 1* put", "10")]
        self.says(rows + [("deed 00", "none"), ("deed 01", "back"), ("press", "00 none,01 back,1* put")])

    def test_another_width(self):
        self.says([
            ("width 2", "ok"), ("put 0 0* go", "00"), ("width 3", "ok"), ("back", Nothing), ("hidden", "none"),
            ("deed 00", NoWord), ("deed 000", "-"), ("put 0 0* go", NoForm), ("put 0 0** go", "000"), ("width 3", "ok"),
            ("lean", "none"), ("out 0", NoRow), ("width 6", "ok"), ("fewest", TooMany), ("put 0 ****** a", "000000"),
        ])

    def test_a_refused_width_leaves_the_sieve(self):
        for row in ("width 0", "width 7", "width 02", "width", "width 2 "):
            self.says([("width 2", "ok"), ("put 0 0* go", "00"), (row, NoLine), ("deed 00", "go"), ("back", "00")])
            self.says([(row, NoLine), ("hidden", NoLine), ("width 1", "ok"), ("hidden", "none")])

    def test_no_sieve_stands(self):
        for row in ("put 0 0* a", "out 0", "move 0 0", "back", "deed 00", "hidden", "needless", "lean", "press",
                    "fewest"):
            self.says([(row, NoLine), ("width 2", "ok"), ("back", Nothing)])

    def test_no_lines(self):
        for row in NO_LINES:
            self.says([(row, NoLine), ("width 2", "ok"), (row, NoLine), ("put 0 00 a", "00"), (row, NoLine),
                       ("put 1 11 b", "11"), (row, NoLine), ("lean", "00 a,11 b"), ("back", "11"), ("back", "00"),
                       ("back", Nothing)])

    def test_signs_that_are_no_blank_are_part_of_a_text(self):
        self.says([
            ("width 1", "ok"), ("deed 0\n", NoWord), ("deed \t", NoWord), ("deed *", NoWord), ("deed 00", NoWord),
            ("put 0 * a\n", NoForm), ("put 0 *\n a", NoForm), ("put 0 \t \n", NoForm), ("put 0 * A", NoForm),
            ("put 0 * abcdefghi", NoForm), ("put 0 - a", NoForm), ("put 1 * a\n", NoRow), ("hidden", "none"),
        ])

    def test_numbers(self):
        rows = [("width 1", "ok")] + [(f"put {number} 0 a", "-" if number else "0") for number in range(12)]
        self.says(rows + [("put 12 0 a", Full), ("put 13 0 a", NoRow), ("put 99 0 a", NoRow), ("out 12", NoRow),
                          ("put 12 2 a", NoForm), ("put 0 0 1", NoForm), ("put 13 2 a", NoRow), ("out 99", NoRow),
                          ("move 11 0", "-"), ("move 12 0", NoRow), ("move 0 12", NoRow), ("move 10 11", "-"),
                          ("hidden", "1 2 3 4 5 6 7 8 9 10 11"), ("needless", "0 1 2 3 4 5 6 7 8 9 10 11"),
                          ("out 11", "-"), ("out 10", "-"), ("out 10", NoRow), ("lean", "0 a"), ("press", "0 a")])

    def test_too_many(self):
        self.says([("width 3", "ok"), ("put 0 0** a", "000"), ("put 1 10* a", "100"), ("fewest", "2"),
                   ("put 2 110 b", "110"), ("fewest", TooMany), ("back", "110"), ("fewest", "2"), ("width 5", "ok"),
                   ("fewest", TooMany), ("width 4", "ok"), ("fewest", "0")])

    def test_many_rows_told(self):
        chance = random.Random(131)
        seen = {}
        for width in WIDTHS:
            for again in range(12):
                desk, model = Desk(), ModelDesk()
                self.ask(desk, model, f"width {width}")
                for at in range(60):
                    row = random_row(chance, width, len(model.book[1]))
                    answer = self.ask(desk, model, row)
                    name = row.split(" ")[0]
                    kind = answer if type(answer) is not str or answer in ("-", "none") else str
                    seen.setdefault(name, set()).add(kind)
        self.assertEqual(seen, {
            "put": {"-", str, NoRow, NoForm, Full}, "out": {"-", str, NoRow}, "move": {"-", str, NoRow},
            "back": {"-", str, Nothing}, "deed": {"-", str, NoWord}, "hidden": {"none", str},
            "needless": {"none", str}, "lean": {"none", str}, "press": {"none", str}, "fewest": {str, TooMany},
        })

    def test_rows_bent_by_one_sign(self):
        chance = random.Random(132)
        for row in ("width 2", "put 0 0* a", "out 1", "move 0 1", "back", "deed 00", "hidden", "needless", "press"):
            for at in range(len(row) + 1):
                for sign in "0129 a*-\n\t":
                    bent = [row[:at] + sign + row[at:], row[:at] + sign + row[at + 1:], row[:at] + row[at + 1:]]
                    given = chance.choice(bent)
                    self.all_said(["width 2", "put 0 0* a", "put 1 *1 b", given, "lean", "back", "deed 11"])

    def test_what_only_tells_changes_nothing(self):
        chance = random.Random(133)
        for width in (1, 2, 3, 4):
            desk, model = Desk(), ModelDesk()
            self.ask(desk, model, f"width {width}")
            for at in range(10):
                self.ask(desk, model, random_row(chance, width, len(model.book[1])))
            for rows in itertools.permutations(("hidden", "needless", "lean", "press", "fewest"), 2):
                for row in rows + rows:
                    self.ask(desk, model, row)
            while self.ask(desk, model, "back") is not Nothing:
                pass

    def test_two_desks(self):
        one, other, first, second = Desk(), Desk(), ModelDesk(), ModelDesk()
        chance = random.Random(134)
        self.ask(one, first, "width 2")
        self.ask(other, second, "hidden")
        self.ask(other, second, "width 3")
        for at in range(60):
            self.ask(one, first, random_row(chance, 2, len(first.book[1])))
            self.ask(other, second, random_row(chance, 3, len(second.book[1])))


if __name__ == "__main__":
    unittest.main()
