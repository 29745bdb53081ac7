"""Points 2, 6, 7, 8 and 10: rows that words meet, and rows that are hidden."""

import itertools
import random
import unittest

from samples import (
    WIDTHS, all_words, bent_trees, deep_trees, first_row, is_made, is_right, no_books, no_rows, no_trees,
    random_book, random_tree, refused, small_books, some_books, split_anyhow, told, words_of,
)
from starsieve.errors import NoBook, NoRow
from starsieve.reached import hidden, is_hidden, reach

BOOK = (2, (("0*", "a"), ("*1", "b"), ("*1", "c"), ("10", "d"), ("**", "e"), ("11", "a")))
TREE = ("split", 0, ("under", 0), ("split", 1, ("under", 3), ("under", 1)))


def rich_books():
    """Books of which many rows are hidden, beside the others."""
    chance = random.Random(31)
    wide = [random_book(chance, width, many, "01****") for width in WIDTHS for many in (3, 6, 9, 12) for at in range(3)]
    return some_books() + small_books() + wide + [BOOK]


def words_met(book, number):
    return [word for word in all_words(book[0]) if first_row(book, word) == number]


def is_hidden_by_words(book, number, tree):
    def is_leaf(leaf, box):
        k = leaf[1]
        return k is not None and 0 <= k < number and box <= words_of(book[1][k][0])
    return is_right(tree, words_of(book[1][number][0]), is_leaf)


def any_right_tree(chance, book, number, further):
    """A right tree of a hidden row, with any rows ahead that take a box, not only the first."""
    def leaf_of(box):
        takers = [k for k in range(number) if box <= words_of(book[1][k][0])]
        return ("under", chance.choice(takers)) if takers else None
    return split_anyhow(chance, words_of(book[1][number][0]), leaf_of, further)


def hidden_rows(books):
    return [(book, number) for book in books for number in range(len(book[1])) if not words_met(book, number)]


class ReachTest(unittest.TestCase):
    def test_plain(self):
        for number, word in ((0, "00"), (1, "11"), (3, "10")):
            self.assertEqual(reach(BOOK, number), ("word", word))
        for number in (2, 4, 5):
            name, tree = reach(BOOK, number)
            self.assertEqual(name, "hidden")
            self.assertTrue(is_hidden_by_words(BOOK, number, tree), tree)

    def test_against_all_words(self):
        for book in rich_books():
            for number in range(len(book[1])):
                words = words_met(book, number)
                for again in range(2):
                    answer = told(self, reach, book, number)
                    self.assertIs(type(answer), tuple)
                    if words:
                        self.assertEqual(answer, ("word", words[0]), (book, number))
                    else:
                        self.assertEqual(answer[0], "hidden", (book, number))
                        self.assertEqual(len(answer), 2)
                        self.assertTrue(is_made(answer[1], "under", 1), answer)
                        self.assertTrue(is_hidden_by_words(book, number, answer[1]), (book, number, answer))

    def test_hidden_by_many_rows_together(self):
        for width in WIDTHS[1:]:
            rows = [("*" * at + "1" + "*" * (width - at - 1), "a") for at in range(width)]
            book = (width, tuple(rows + [("0" * width, "b"), ("*" * width, "c")]))
            self.assertEqual(reach(book, width), ("word", "0" * width))
            name, tree = reach(book, width + 1)
            self.assertEqual(name, "hidden")
            self.assertTrue(is_hidden_by_words(book, width + 1, tree))
            self.assertEqual(hidden(book), [width + 1])

    def test_the_first_row_is_never_hidden(self):
        for book in rich_books():
            if book[1]:
                self.assertEqual(reach(book, 0), ("word", min(words_of(book[1][0][0]))))


class IsHiddenTest(unittest.TestCase):
    def look_over(self, book, number, tree):
        right = is_hidden_by_words(book, number, tree)
        self.assertIs(told(self, is_hidden, book, number, tree), right, (book, number, tree))

    def test_plain(self):
        self.assertIs(is_hidden(BOOK, 4, TREE), True)
        self.assertIs(is_hidden(BOOK, 4, ("split", 0, ("under", 0), ("split", 1, ("under", 3), ("under", 2)))), True)
        self.assertIs(is_hidden(BOOK, 2, ("under", 1)), True)
        for number in (1, 2, 4):
            self.assertIs(is_hidden(BOOK, 5, ("under", number)), True)

    def test_plain_bent(self):
        for number in (None, -1, -4, 0, 2, 3, 4, 5, 6, 10 ** 20):
            self.assertIs(is_hidden(BOOK, 2, ("under", number)), False, number)
        bent = [
            ("split", 0, TREE[3], TREE[2]), ("split", 1, TREE[2], TREE[3]), ("split", 2, TREE[2], TREE[3]),
            ("split", -1, TREE[2], TREE[3]), ("split", -2, TREE[2], TREE[3]), ("split", 10 ** 20, TREE[2], TREE[3]),
            ("split", 0, ("under", 0), ("split", 0, ("under", 3), ("under", 1))),
            ("split", 0, ("under", 0), ("split", 1, ("under", 3), ("under", 4))),
            ("split", 0, ("under", 0), ("split", 1, ("under", 3), ("under", 5))),
            ("split", 0, ("under", 0), ("split", 1, ("under", -3), ("under", 1))),
            ("split", 0, ("under", 0), ("split", 1, ("under", None), ("under", 1))),
            ("split", 0, ("under", 0), ("under", 1)), ("under", 0), ("under", 4), TREE[2], TREE[3],
        ]
        for tree in bent:
            self.assertIs(told(self, is_hidden, BOOK, 4, tree), False, tree)

    def test_a_split_at_a_sign_of_the_form(self):
        self.assertIs(is_hidden(BOOK, 2, ("split", 0, ("under", 1), ("under", 1))), True)
        self.assertIs(is_hidden(BOOK, 2, ("split", 1, ("under", 1), ("under", 1))), False)
        self.assertIs(is_hidden(BOOK, 2, ("split", -2, ("under", 1), ("under", 1))), False)
        twice = ("split", 0, ("split", 0, ("under", 1), ("under", 1)), ("under", 1))
        self.assertIs(is_hidden(BOOK, 2, twice), False)

    def test_no_tree_hides_a_row_that_a_word_meets(self):
        chance = random.Random(32)
        for book in rich_books():
            for number in range(len(book[1])):
                if words_met(book, number):
                    for k in (None, -1, 0, number - 1, number, number + 1):
                        self.assertIs(is_hidden(book, number, ("under", k)), False, (book, number))
                    tree = random_tree(chance, book[0], 4, "under", 1, [None] + list(range(-1, number + 2)))
                    self.assertIs(is_hidden(book, number, tree), False, (book, number, tree))

    def test_right_trees_that_split_anyhow(self):
        chance = random.Random(33)
        for book, number in hidden_rows(rich_books()):
            for further in (0, 0.4, 1):
                tree = any_right_tree(chance, book, number, further)
                self.assertTrue(is_hidden_by_words(book, number, tree))
                self.assertIs(told(self, is_hidden, book, number, tree), True, (book, number, tree))

    def test_trees_with_one_thing_turned(self):
        chance = random.Random(34)
        for book, number in hidden_rows(rich_books()):
            for tree in (reach(book, number)[1], any_right_tree(chance, book, number, 0.3)):
                bent = bent_trees(tree, book[0], [len(book[1])])
                for turned in chance.sample(bent, min(len(bent), 25)):
                    self.look_over(book, number, turned)

    def test_all_trees_of_one_split(self):
        leaves = [("under", number) for number in (None, -1, 0, 1, 2)]
        splits = [("split", at, zero, one) for at in (-1, 0, 1) for zero, one in itertools.product(leaves, repeat=2)]
        for book in small_books():
            for number in range(len(book[1])):
                for tree in leaves + splits:
                    self.look_over(book, number, tree)

    def test_deep_trees(self):
        for width in WIDTHS:
            row = ("*" * width, "a")
            for tree in deep_trees(width, ("under", 0)):
                self.look_over((width, (row, row)), 1, tree)
                self.look_over((width, (row, row)), 0, tree)

    def test_a_truth_is_no_number(self):
        book = (2, (("*0", "a"), ("*1", "b"), ("**", "b")))
        self.assertIs(is_hidden(book, 2, ("split", 1, ("under", 0), ("under", 1))), True)
        self.assertIs(is_hidden(book, 2, ("split", True, ("under", 0), ("under", 1))), False)
        self.assertIs(is_hidden(book, 2, ("split", 1, ("under", 0), ("under", True))), False)
        self.assertIs(is_hidden(book, 2, ("split", 1, ("under", False), ("under", 1))), False)

    def test_what_is_no_tree_is_not_right(self):
        for tree in no_trees("under", 1):
            self.assertIs(told(self, is_hidden, (1, (("*", "a"), ("*", "a"))), 1, tree), False, tree)


class HiddenTest(unittest.TestCase):
    def test_plain(self):
        self.assertEqual(hidden(BOOK), [2, 4, 5])
        self.assertEqual(hidden((1, ())), [])
        self.assertEqual(hidden((1, (("*", "a"),) * 12)), list(range(1, 12)))

    def test_against_all_words(self):
        for book in rich_books():
            numbers = told(self, hidden, book)
            self.assertIs(type(numbers), list)
            self.assertTrue(all(type(number) is int for number in numbers))
            self.assertEqual(numbers, [k for k in range(len(book[1])) if not words_met(book, k)], book)

    def test_a_told_list_is_the_askers_own(self):
        for book in rich_books():
            numbers = hidden(book)
            before = list(numbers)
            numbers.insert(0, 7)
            self.assertEqual(hidden(book), before)


class RefusalTest(unittest.TestCase):
    def test_no_book_goes_first(self):
        for thing in no_books():
            refused(self, NoBook, hidden, thing)
            for number in (0, 1, -1, 12, True, None, "0", [0]):
                refused(self, NoBook, reach, thing, number)
                refused(self, NoBook, is_hidden, thing, number, ("under", 0))

    def test_no_row(self):
        row = ("**", "a")
        for many in (0, 1, 2, 12):
            book = (2, (row,) * many)
            for number in no_rows(many):
                refused(self, NoRow, reach, book, number)
                for tree in (("under", 0), ("split", 5, ("under", 0), ("under", 0))):
                    refused(self, NoRow, is_hidden, book, number, tree)


if __name__ == "__main__":
    unittest.main()
