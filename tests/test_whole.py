"""Points 1 to 3: what holds over the whole program, where its parts meet."""

import copy
import itertools
import random
import unittest

from samples import (
    DEEDS, WIDTHS, all_words, do_the_same, few_wanted_books, least_parting, random_book, rich_books, some_books,
)
from starsieve.alike import alike, is_alike
from starsieve.books import deed, is_book, need_book
from starsieve.changes import changes, cost, is_change_floor, made_by
from starsieve.desk import Desk
from starsieve.errors import Nothing
from starsieve.fewest import fewest, is_floor, wanted
from starsieve.joins import join, joins, press
from starsieve.laid import counts, is_laid, laid
from starsieve.lean import lean, needless, without
from starsieve.moves import by_order, is_apart, is_way, may_swap, way
from starsieve.reached import hidden, is_hidden, reach
from starsieve.sieve import Sieve
from starsieve.texts import read_book, show_book, show_row


def small_pairs(seed):
    """Books of at most four rows, and goals with few wanted words."""
    chance = random.Random(seed)
    return [(random_book(chance, goal[0], chance.randrange(5), "01*"), goal) for goal in few_wanted_books(seed, 2)]


def numbers_in(text):
    return [] if text == "none" else [int(number) for number in text.split(" ")]


class PartsMeetTest(unittest.TestCase):
    def test_a_script_done_by_a_sieve_row_by_row(self):
        for book, goal in small_pairs(141):
            number, script, floors = changes(book, goal)
            sieve, at, done = Sieve(book), 0, 0
            for thing in script:
                before = sieve.book()
                if thing[0] == "in":
                    word = sieve.put(at, thing[1], thing[2])
                elif thing[0] == "out":
                    word = sieve.out(at)
                if thing[0] != "keep":
                    done += 1
                    self.assertEqual(word, least_parting(before, sieve.book()))
                at += thing[0] != "out"
            self.assertEqual(sieve.book(), made_by(book, script))
            self.assertTrue(do_the_same(sieve.book(), goal))
            self.assertEqual(done, number)
            for undone in range(done):
                sieve.back()
            self.assertEqual(sieve.book(), book)
            with self.assertRaises(Nothing):
                sieve.back()

    def test_a_way_done_by_a_sieves_moves(self):
        chance = random.Random(142)
        seen = set()
        for width, many in itertools.product((1, 2, 3, 4), (2, 3, 4)):
            book = random_book(chance, width, many, "01*", ("a", "b", "c"))
            for order in itertools.permutations(range(many)):
                name, steps = way(book, order)
                seen.add(name)
                if name == "way":
                    sieve = Sieve(book)
                    for place in steps:
                        self.assertIs(may_swap(sieve.book(), place), True)
                        self.assertIsNone(sieve.move(place, place + 1))
                    self.assertEqual(sieve.book(), by_order(book, order))
        self.assertEqual(seen, {"way", "apart"})

    def test_hidden_and_needless_rows_taken_out_of_a_sieve(self):
        for book in rich_books(143)[::2]:
            sieve = Sieve(book)
            while sieve.hidden():
                self.assertIsNone(sieve.out(sieve.hidden()[-1]))
            self.assertTrue(do_the_same(sieve.book(), book))
            for number in reversed(range(len(sieve.book()[1]))):
                name, shown = needless(sieve.book(), number)
                word = sieve.out(number)
                self.assertEqual(word, None if name == "needless" else shown)
                if name == "needed":
                    self.assertEqual(sieve.back(), shown)
            self.assertEqual(sieve.book(), lean(without_hidden(book)))

    def test_joined_rows_done_by_a_sieve(self):
        for book in rich_books(144)[::3]:
            for one, other, at in joins(book)[:4]:
                made = join(book, one, other, at)
                sieve = Sieve(book)
                sieve.out(other)
                sieve.out(one)
                place = at if at == one else at - 1
                sieve.put(place, *made[1][place])
                self.assertEqual(sieve.book(), made)
                self.assertTrue(do_the_same(made, book))

    def test_texts_read_told_to_a_desk_and_answered(self):
        for book in rich_books(145)[::2]:
            text = show_book(book)
            self.assertEqual(read_book(text), book)
            rows = text.split("\n")[:-1]
            desk = Desk()
            self.assertEqual(desk.say(rows[0]), "ok")
            for number, row in enumerate(rows[1:]):
                before, after = (book[0], book[1][:number]), (book[0], book[1][:number + 1])
                self.assertEqual(desk.say(f"put {number} {row}"), least_parting(before, after) or "-")
            for word in all_words(book[0])[::5]:
                self.assertEqual(desk.say(f"deed {word}"), deed(book, word) or "-")
            self.assertEqual(numbers_in(desk.say("hidden")), hidden(book))
            self.assertEqual(numbers_in(desk.say("needless")),
                             [number for number in range(len(book[1])) if needless(book, number)[0] == "needless"])
            for name, made in (("lean", lean(book)), ("press", press(book))):
                told = desk.say(name)
                self.assertEqual(told, ",".join(show_row(row) for row in made[1]) or "none")
                lines = [] if told == "none" else told.split(",")
                self.assertEqual(read_book("".join(line + "\n" for line in rows[:1] + lines)), made)

    def test_the_fewest_told_by_a_desk(self):
        for book in few_wanted_books(146, 1):
            desk = Desk()
            desk.say(f"width {book[0]}")
            for form, given in reversed(book[1]):
                desk.say(f"put 0 {form} {given}")
            self.assertEqual(desk.say("fewest"), str(fewest(book)[0]))
            self.assertLessEqual(fewest(book)[0], len(press(book)[1]))

    def test_each_row_is_met_or_hidden_never_both(self):
        for book in some_books()[::2]:
            many = counts(book)
            self.assertEqual(sum(many), 2 ** book[0])
            for number in range(len(book[1])):
                name, shown = reach(book, number)
                self.assertEqual(name == "hidden", many[number] == 0)
                self.assertEqual(name == "hidden" and is_hidden(book, number, shown), number in hidden(book))

    def test_what_is_made_of_a_book_is_a_book(self):
        for book in rich_books(147)[::3]:
            made = [lean(book), press(book), by_order(book, tuple(reversed(range(len(book[1]))))),
                    read_book(show_book(book)), Sieve(book).book()]
            made += [without(book, number) for number in range(len(book[1]))]
            for other in made:
                self.assertTrue(is_book(other), other)
                need_book(other)


def without_hidden(book):
    for number in reversed(hidden(book)):
        book = without(book, number)
    return book


class ToldAgainTest(unittest.TestCase):
    def calls(self, book, goal):
        """Calls that tell lists or trees, of books of few rows and words."""
        order = tuple(reversed(range(len(book[1]))))
        return [
            (laid, book), (counts, book), (hidden, book), (alike, book, goal), (way, book, order), (joins, book),
            (press, book), (lean, book), (wanted, goal), (fewest, goal), (changes, book, goal), (show_book, book),
        ]

    def spoil(self, thing):
        """Changes every list in a thing."""
        if isinstance(thing, list):
            for inner in thing:
                self.spoil(inner)
            thing.append("spoiled")
            thing.reverse()
        elif isinstance(thing, tuple):
            for inner in thing:
                self.spoil(inner)

    def test_told_lists_changed_between(self):
        for book, goal in small_pairs(151)[::2]:
            for function, *given in self.calls(book, goal):
                before = copy.deepcopy(given)
                first = function(*given)
                kept = copy.deepcopy(first)
                self.spoil(first)
                self.assertEqual(function(*given), kept, function.__name__)
                self.assertEqual(given, before)

    def test_lists_handed_in_and_changed_afterwards(self):
        for book, goal in small_pairs(152)[::2]:
            number, script, floors = changes(book, goal)
            kept = copy.deepcopy(floors)
            self.assertEqual(cost(book, goal, script), number)
            self.assertIs(is_change_floor(book, goal, number, floors), True)
            self.spoil(script)
            self.spoil(floors)
            self.assertIs(is_change_floor(book, goal, number, kept), True)
            self.assertEqual(cost(book, goal, changes(book, goal)[1]), number)

    def test_shown_things_hold_again(self):
        for book, goal in small_pairs(153)[::2]:
            for again in range(2):
                self.assertIs(is_laid(book, laid(book)), True)
                number, made, floors = fewest(goal)
                self.assertIs(is_floor(goal, number, floors), True)
                self.assertIs(is_alike(goal, made, alike(goal, made)[1]), True)
                order = tuple(reversed(range(len(book[1]))))
                name, shown = way(book, order)
                self.assertIs(is_way(book, order, shown) if name == "way" else is_apart(book, order, shown), True)

    def test_the_widest_and_longest_books(self):
        chance = random.Random(154)
        for width in WIDTHS:
            book = random_book(chance, width, 12, "01**", DEEDS)
            pressed = press(book)
            self.assertTrue(do_the_same(book, pressed))
            self.assertEqual(alike(book, pressed)[0], "alike")
            self.assertIs(is_alike(book, pressed, alike(book, pressed)[1]), True)
            self.assertEqual(cost(book, pressed, [("keep",)] * 12), 0)


if __name__ == "__main__":
    unittest.main()
