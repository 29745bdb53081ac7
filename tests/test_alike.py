"""Points 2, 6, 7, 8 and 11: two books that do the same, or a word by which they part."""

import random
import unittest

from samples import (
    WIDTHS, all_words, bent_trees, books_that_do_the_same, deed_by_words, deep_trees, first_row, is_made, is_right,
    least_parting, no_books, no_trees, no_words, random_book, random_tree, refused, row_is_met, small_books, some_books,
    split_anyhow, told, words_of,
)
from starsieve.alike import alike, is_alike, parts
from starsieve.errors import NoBook, NoMatch, NoWord

ONE = (2, (("0*", "a"), ("*1", "b")))
OTHER = (2, (("11", "b"), ("00", "a"), ("0*", "a")))
TREE = ("split", 0, ("split", 1, ("same", 0, 1), ("same", 0, 2)), ("split", 1, ("same", None, None), ("same", 1, 0)))


def same_pairs(chance, each):
    pairs = []
    for book in some_books():
        others = books_that_do_the_same(book)
        pairs += [(book, other) for other in chance.sample(others, min(len(others), each))]
    return pairs


def any_pairs(chance, each):
    """Pairs of books of one width: of unlike making, and with one deed turned."""
    pairs = []
    for width in WIDTHS:
        for at in range(each):
            one, other = [random_book(chance, width, chance.randrange(13)) for book in range(2)]
            pairs.append((one, other))
            for k, (form, deed) in enumerate(one[1]):
                pairs.append((one, (width, one[1][:k] + ((form, "other"),) + one[1][k + 1:])))
    return pairs


def is_alike_by_words(one, other, tree):
    def is_leaf(leaf, box):
        name, k, l = leaf
        right = row_is_met(one[1], k, box) and row_is_met(other[1], l, box)
        return right and all(deed_by_words(one, word) == deed_by_words(other, word) for word in box)
    return is_right(tree, words_of("*" * one[0]), is_leaf)


def tree_of_rows(chance, one, other, further):
    """A tree with the rows met in both books, whatever their deeds, split anyhow."""
    def leaf_of(box):
        rows = {(first_row(one, word), first_row(other, word)) for word in box}
        return ("same",) + rows.pop() if len(rows) == 1 else None
    return split_anyhow(chance, words_of("*" * one[0]), leaf_of, further)


class AlikeTest(unittest.TestCase):
    def look_over(self, one, other):
        word = least_parting(one, other)
        for again in range(2):
            answer = told(self, alike, one, other)
            self.assertIs(type(answer), tuple)
            if word is not None:
                self.assertEqual(answer, ("parted", word), (one, other))
            else:
                self.assertEqual(answer[0], "alike", (one, other))
                self.assertEqual(len(answer), 2)
                self.assertTrue(is_made(answer[1], "same", 2), answer)
                self.assertTrue(is_alike_by_words(one, other, answer[1]), (one, other, answer))
        return answer[0]

    def test_plain(self):
        self.assertEqual(self.look_over(ONE, OTHER), "alike")
        self.assertEqual(alike(ONE, (2, ())), ("parted", "00"))
        self.assertEqual(alike(ONE, (2, (("0*", "a"),))), ("parted", "11"))
        self.assertEqual(alike((2, (("*1", "b"), ("0*", "a"))), ONE), ("parted", "01"))

    def test_no_rows_and_a_book_with_itself(self):
        for width in WIDTHS:
            self.assertEqual(self.look_over((width, ()), (width, ())), "alike")
        for book in some_books():
            self.assertEqual(self.look_over(book, book), "alike")

    def test_a_deed_and_none(self):
        for width in WIDTHS:
            for word in all_words(width):
                book = (width, ((word, "a"),))
                self.assertEqual(alike(book, (width, ())), ("parted", word))
                self.assertEqual(alike((width, ()), book), ("parted", word))

    def test_pairs_that_do_the_same(self):
        for one, other in same_pairs(random.Random(41), 4):
            self.assertEqual(self.look_over(one, other), "alike", (one, other))
            self.assertEqual(self.look_over(other, one), "alike", (one, other))

    def test_any_pairs(self):
        seen = set()
        for one, other in any_pairs(random.Random(42), 12):
            seen.add(self.look_over(one, other))
            self.assertIn(self.look_over(other, one), seen)
        self.assertEqual(seen, {"alike", "parted"})

    def test_all_pairs_of_small_books(self):
        books = [book for book in small_books() if book[0] == 1]
        for one in books:
            for other in books:
                self.look_over(one, other)


class IsAlikeTest(unittest.TestCase):
    def look_over(self, one, other, tree):
        right = is_alike_by_words(one, other, tree)
        self.assertIs(told(self, is_alike, one, other, tree), right, (one, other, tree))

    def test_plain(self):
        self.assertIs(is_alike(ONE, OTHER, TREE), True)
        self.assertIs(is_alike(OTHER, ONE, TREE), False)

    def test_plain_bent(self):
        zero, one = TREE[2], TREE[3]
        bent = [
            ("split", 0, one, zero), ("split", 1, zero, one), ("split", 2, zero, one), ("split", -1, zero, one),
            ("split", -2, zero, one), ("split", 10 ** 20, zero, one), zero, one, ("same", 0, 0), ("same", None, None),
            ("split", 0, ("same", 0, 2), one), ("split", 0, ("same", 0, 1), one), ("split", 0, TREE, TREE),
        ]
        for first in (("same", 1, 1), ("same", 0, 2), ("same", 0, 0), ("same", None, 1), ("same", 0, None),
                      ("same", -2, 1), ("same", 0, -2), ("same", 2, 1), ("same", 0, 3), ("same", 10 ** 20, 1)):
            bent.append(("split", 0, ("split", 1, first, ("same", 0, 2)), one))
        for first in (("same", 0, None), ("same", None, 0), ("same", -1, None), ("same", None, -1), ("same", 2, None)):
            bent.append(("split", 0, zero, ("split", 1, first, ("same", 1, 0))))
        for tree in bent:
            self.assertIs(told(self, is_alike, ONE, OTHER, tree), False, tree)

    def test_rows_right_but_deeds_unlike(self):
        for one, other in (("a", "b"), ("a", "aa"), ("b", "a")):
            books = (1, (("*", one),)), (1, (("*", other),))
            self.assertIs(is_alike(books[0], books[1], ("same", 0, 0)), False)
            self.assertIs(is_alike(books[0], books[0], ("same", 0, 0)), True)
            self.assertIs(is_alike(books[0], (1, ()), ("same", 0, None)), False)
            self.assertIs(is_alike((1, ()), books[0], ("same", None, 0)), False)

    def test_right_trees_that_split_anyhow(self):
        chance = random.Random(43)
        for one, other in same_pairs(chance, 3):
            for further in (0, 0.4, 1):
                tree = tree_of_rows(chance, one, other, further)
                self.assertTrue(is_alike_by_words(one, other, tree))
                self.assertIs(told(self, is_alike, one, other, tree), True, (one, other, tree))

    def test_trees_with_one_thing_turned(self):
        chance = random.Random(44)
        for one, other in same_pairs(chance, 2):
            for tree in (alike(one, other)[1], tree_of_rows(chance, one, other, 0.2)):
                bent = bent_trees(tree, one[0], [len(one[1]), len(other[1])])
                for turned in chance.sample(bent, min(len(bent), 20)):
                    self.look_over(one, other, turned)

    def test_all_turns_of_one_tree(self):
        for tree in bent_trees(TREE, 2, [2, 3]):
            self.look_over(ONE, OTHER, tree)

    def test_no_tree_shows_what_a_word_parts(self):
        chance = random.Random(45)
        for one, other in any_pairs(chance, 6):
            if least_parting(one, other) is not None:
                for further in (0, 0.4):
                    tree = tree_of_rows(chance, one, other, further)
                    self.assertIs(told(self, is_alike, one, other, tree), False, (one, other, tree))

    def test_any_trees(self):
        chance = random.Random(46)
        numbers = [None, None, 0, 0, 1, -1, 2]
        for one, other in same_pairs(chance, 2):
            for deep in (0, 1, 2, 8):
                self.look_over(one, other, random_tree(chance, one[0], deep, "same", 2, numbers))

    def test_deep_trees(self):
        for width in WIDTHS:
            one, other = (width, ()), (width, (("*" * width, "a"),))
            for leaf in (("same", None, None), ("same", 0, 0), ("same", 0, None)):
                for tree in deep_trees(width, leaf):
                    self.look_over(one, one, tree)
                    self.look_over(other, other, tree)
                    self.look_over(one, other, tree)

    def test_a_truth_is_no_number(self):
        book = (2, (("*0", "a"), ("**", "b")))
        self.assertIs(is_alike(book, book, ("split", 1, ("same", 0, 0), ("same", 1, 1))), True)
        for tree in (("split", True, ("same", 0, 0), ("same", 1, 1)), ("split", 1, ("same", False, 0), ("same", 1, 1)),
                     ("split", 1, ("same", 0, 0), ("same", 1, True))):
            self.assertIs(is_alike(book, book, tree), False, tree)

    def test_what_is_no_tree_is_not_right(self):
        book = (1, (("*", "a"),))
        for tree in no_trees("same", 2):
            self.assertIs(told(self, is_alike, book, book, tree), False, tree)


class PartsTest(unittest.TestCase):
    def test_plain(self):
        other = (2, (("*1", "b"), ("0*", "a")))
        self.assertEqual([parts(ONE, other, word) for word in all_words(2)], [False, True, False, False])

    def test_against_the_deeds_of_all_words(self):
        chance = random.Random(47)
        for one, other in same_pairs(chance, 2) + any_pairs(chance, 4):
            for word in all_words(one[0]):
                right = deed_by_words(one, word) != deed_by_words(other, word)
                self.assertIs(told(self, parts, one, other, word), right, (one, other, word))
                self.assertIs(parts(other, one, word), right, (one, other, word))


class RefusalTest(unittest.TestCase):
    def ask_all(self, error, one, other):
        refused(self, error, alike, one, other)
        for tree in (("same", None, None), TREE):
            refused(self, error, is_alike, one, other, tree)
        for word in ("00", "0", "", "0*", None, 0, True, ["00"]):
            refused(self, error, parts, one, other, word)

    def test_no_book_goes_first(self):
        for thing in no_books():
            for book in (ONE, (1, ()), (6, ())):
                self.ask_all(NoBook, thing, book)
                self.ask_all(NoBook, book, thing)
            self.ask_all(NoBook, thing, thing)

    def test_unlike_widths(self):
        for width in WIDTHS:
            for other in WIDTHS:
                if width != other:
                    self.ask_all(NoMatch, (width, ()), (other, ()))
                    self.ask_all(NoMatch, (width, (("0" * width, "a"),)), (other, (("0" * other, "a"),) * 12))

    def test_no_word(self):
        for width in WIDTHS:
            for other in ((width, ()), (width, (("*" * width, "a"),))):
                for word in no_words(width):
                    refused(self, NoWord, parts, (width, ()), other, word)
                    refused(self, NoWord, parts, other, (width, ()), word)


if __name__ == "__main__":
    unittest.main()
