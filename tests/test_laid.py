"""Points 2, 6, 8 and 9: a book's trees, and how many words meet each row."""

import itertools
import random
import unittest

from samples import (
    WIDTHS, all_words, bent_trees, deep_trees, first_row, is_made, is_right, no_books, no_trees, random_tree,
    refused, row_is_met, small_books, some_books, split_anyhow, told, words_of,
)
from starsieve.errors import NoBook
from starsieve.laid import counts, is_laid, laid

BOOK = (2, (("01", "go"), ("0*", "stay"), ("*1", "go")))
TREE = ("split", 0, ("split", 1, ("met", 1), ("met", 0)), ("split", 1, ("met", None), ("met", 2)))


def is_laid_by_words(book, tree):
    return is_right(tree, words_of("*" * book[0]), lambda leaf, box: row_is_met(book[1], leaf[1], box))


def any_right_tree(chance, book, further):
    def leaf_of(box):
        numbers = {first_row(book, word) for word in box}
        return ("met", numbers.pop()) if len(numbers) == 1 else None
    return split_anyhow(chance, words_of("*" * book[0]), leaf_of, further)


def leaf_at(tree, word):
    while tree[0] == "split":
        tree = tree[3 if word[tree[1]] == "1" else 2]
    return tree


class LaidTest(unittest.TestCase):
    def test_right_of_the_words_of_each_box(self):
        for book in some_books() + small_books():
            for again in range(2):
                tree = told(self, laid, book)
                self.assertTrue(is_made(tree, "met", 1), (book, tree))
                self.assertTrue(is_laid_by_words(book, tree), (book, tree))

    def test_each_word_comes_to_the_row_that_it_meets(self):
        for book in some_books():
            tree = laid(book)
            for word in all_words(book[0]):
                self.assertEqual(leaf_at(tree, word), ("met", first_row(book, word)), (book, word))

    def test_no_row_and_a_row_of_stars(self):
        for width in WIDTHS:
            form = "*" * width
            for word in all_words(width):
                self.assertEqual(leaf_at(laid((width, ())), word), ("met", None))
                self.assertEqual(leaf_at(laid((width, ((form, "a"), (form, "b")))), word), ("met", 0))

    def test_rows_for_each_word_alone(self):
        for width in (1, 2, 3):
            book = (width, tuple((word, "a") for word in reversed(all_words(width))))
            self.assertTrue(is_laid_by_words(book, laid(book)))

    def test_no_book(self):
        for thing in no_books():
            refused(self, NoBook, laid, thing)


class IsLaidTest(unittest.TestCase):
    def look_over(self, book, tree):
        self.assertIs(told(self, is_laid, book, tree), is_laid_by_words(book, tree), (book, tree))

    def test_plain(self):
        self.assertIs(is_laid(BOOK, TREE), True)
        other = ("split", 1, ("split", 0, ("met", 1), ("met", None)), ("split", 0, ("met", 0), ("met", 2)))
        self.assertIs(is_laid(BOOK, other), True)

    def test_plain_bent(self):
        zero, one = TREE[2], TREE[3]
        bent = [
            ("split", 0, one, zero), ("split", 1, zero, one), ("split", 0, zero, zero), ("split", 2, zero, one),
            ("split", -1, zero, one), ("split", -2, zero, one), ("split", 10 ** 20, zero, one), zero, one,
            ("split", 0, ("split", 0, ("met", 1), ("met", 0)), one), ("split", 0, ("met", 1), one),
            ("split", 0, zero, ("met", None)), ("split", 0, zero, ("met", 2)), ("met", 0), ("met", None),
            ("split", 0, ("split", 1, ("met", 1), ("met", 1)), one), ("split", 0, TREE, TREE),
            ("split", 0, ("split", 1, ("met", 1), ("met", -3)), one),
            ("split", 0, zero, ("split", 1, ("met", None), ("met", -1))),
            ("split", 0, zero, ("split", 1, ("met", 3), ("met", 2))),
            ("split", 0, zero, ("split", 1, ("met", -1), ("met", 2))),
            ("split", 0, zero, ("split", 1, ("met", None), ("met", None))),
        ]
        for tree in bent:
            self.assertIs(told(self, is_laid, BOOK, tree), False, tree)

    def test_a_leaf_alone(self):
        for width in WIDTHS:
            empty, full = (width, ()), (width, (("*" * width, "a"), ("*" * width, "a")))
            half = (width, (("0" + "*" * (width - 1), "a"),))
            for number in (None, 0, 1, 2, -1, -2, 10 ** 20):
                self.assertIs(is_laid(empty, ("met", number)), number is None)
                self.assertIs(is_laid(full, ("met", number)), number == 0)
                self.assertIs(is_laid(half, ("met", number)), False)

    def test_a_row_that_the_box_only_touches(self):
        book = (2, (("00", "a"), ("0*", "b"), ("**", "c")))
        right = ("split", 0, ("split", 1, ("met", 0), ("met", 1)), ("met", 2))
        self.assertIs(is_laid(book, right), True)
        self.assertIs(is_laid(book, ("split", 0, ("met", 1), ("met", 2))), False)
        self.assertIs(is_laid(book, ("split", 0, ("met", 0), ("met", 2))), False)
        self.assertIs(is_laid(book, ("met", 2)), False)

    def test_right_trees_that_split_anyhow(self):
        chance = random.Random(21)
        for book in some_books():
            for further in (0, 0.4, 1):
                tree = any_right_tree(chance, book, further)
                self.assertTrue(is_laid_by_words(book, tree))
                self.assertIs(told(self, is_laid, book, tree), True, (book, tree))

    def test_trees_with_one_thing_turned(self):
        chance = random.Random(22)
        for book in some_books():
            for tree in (laid(book), any_right_tree(chance, book, 0.2)):
                bent = bent_trees(tree, book[0], [len(book[1])])
                for turned in chance.sample(bent, min(len(bent), 30)):
                    self.look_over(book, turned)

    def test_all_turns_of_small_trees(self):
        for book in small_books() + [BOOK]:
            for tree in bent_trees(laid(book), book[0], [len(book[1])]):
                self.look_over(book, tree)

    def test_all_trees_of_one_split(self):
        leaves = [("met", number) for number in (None, -1, 0, 1, 2)]
        splits = [("split", at, zero, one) for at in (-1, 0, 1) for zero, one in itertools.product(leaves, repeat=2)]
        for book in small_books():
            for tree in leaves + splits:
                self.look_over(book, tree)

    def test_any_trees(self):
        chance = random.Random(23)
        for book in some_books():
            numbers = [None] + list(range(-1, len(book[1]) + 1))
            for deep in (1, 2, 3, 8):
                self.look_over(book, random_tree(chance, book[0], deep, "met", 1, numbers))

    def test_deep_trees(self):
        for width in WIDTHS:
            for book in ((width, ()), (width, (("*" * width, "a"),))):
                for leaf in (("met", None), ("met", 0)):
                    for tree in deep_trees(width, leaf):
                        self.look_over(book, tree)

    def test_a_truth_is_no_number(self):
        book = (2, (("*0", "a"), ("**", "b")))
        self.assertIs(is_laid(book, ("split", 1, ("met", 0), ("met", 1))), True)
        self.assertIs(is_laid(book, ("split", True, ("met", 0), ("met", 1))), False)
        self.assertIs(is_laid(book, ("split", 1, ("met", False), ("met", 1))), False)
        self.assertIs(is_laid(book, ("split", 1, ("met", 0), ("met", True))), False)

    def test_what_is_no_tree_is_not_right(self):
        for tree in no_trees("met", 1):
            self.assertIs(told(self, is_laid, (1, (("*", "a"),)), tree), False, tree)

    def test_no_book(self):
        for thing in no_books():
            for tree in (("met", None), ("met", 0), TREE):
                refused(self, NoBook, is_laid, thing, tree)


class CountsTest(unittest.TestCase):
    def test_plain(self):
        self.assertEqual(counts(BOOK), [1, 1, 1, 1])
        self.assertEqual(counts((3, (("**1", "a"), ("0**", "a"), ("001", "b")))), [4, 2, 0, 2])

    def test_no_row(self):
        for width in WIDTHS:
            self.assertEqual(counts((width, ())), [2 ** width])

    def test_against_all_words(self):
        for book in some_books() + small_books():
            met = [first_row(book, word) for word in all_words(book[0])]
            many = told(self, counts, book)
            self.assertIs(type(many), list)
            self.assertTrue(all(type(number) is int for number in many))
            self.assertEqual(many, [met.count(number) for number in range(len(book[1]))] + [met.count(None)], book)

    def test_a_told_list_is_the_askers_own(self):
        for book in some_books():
            many = counts(book)
            before = list(many)
            many.append(5)
            many[0] = -1
            self.assertEqual(counts(book), before)
            self.assertTrue(is_laid_by_words(book, laid(book)))

    def test_no_book(self):
        for thing in no_books():
            refused(self, NoBook, counts, thing)


if __name__ == "__main__":
    unittest.main()
