"""Points 2, 6, 17 and 18: the fewest rows that do the same, and floors that show that no fewer do."""

import functools
import itertools
import random
import unittest

from samples import (
    all_forms, all_words, bent_lists, bent_words, deeds_by_words, do_the_same, few_wanted_books, no_books,
    number_by_search, refused, rich_books, seven_wanted, small_books, steps_by_words, told, wanted_by_words,
)
from starsieve.books import is_book
from starsieve.errors import NoBook, TooMany
from starsieve.fewest import fewest, is_floor, wanted

BOOK = (2, (("00", "a"), ("01", "b"), ("10", "a")))
FLOORS = [(("00", "01", "10"), 2), (("00", "01"), 1), (("00", "10"), 1), (("01", "10"), 1), (("01",), 1), (("10",), 1),
          (("00",), 1)]


@functools.lru_cache(maxsize=None)
def fewest_of_all_books(width, most):
    """The fewest rows for the deeds of all words, by all books of at most so many rows and two deeds."""
    rows = [(form, deed) for form in all_forms(width) for deed in ("a", "b")]
    number = {}
    for many in range(most + 1):
        for given in itertools.product(rows, repeat=many):
            number.setdefault(deeds_by_words.__wrapped__((width, given)), many)
    return number


def is_floor_by_words(book, number, floors):
    words = wanted_by_words(book)
    high = dict(sorted(floors))
    for some, n in floors:
        if list(some) != sorted(set(some)) or not set(some) <= set(words):
            return False
        if n > 0 and not some:
            return False
        if n > 1:
            for form, deed, left in steps_by_words(book, some):
                if high.get(left, 0) < n - 1:
                    return False
    return any(some == tuple(words) and n >= number for some, n in floors)


def is_made(floors):
    """Whether floors are made as told: a list of tuples of a tuple of texts and a number."""
    if type(floors) is not list or not all(type(given) is tuple and len(given) == 2 for given in floors):
        return False
    return all(type(some) is tuple and type(n) is int and all(type(word) is str for word in some) for some, n in floors)


def bent_floors(chance, book, floors):
    """The floors with one thing in them turned, which may leave them right."""
    words = tuple(wanted_by_words(book))
    more = [((), 0), ((), 1), ((), -1), (words, 9), (words, 0), (words, -3), (words[::-1], 0), (("",), 0),
            (("00000",), 0), (words + words[:1], 0), (words[:1], 1), (words[:1], 2), (tuple(all_words(book[0])), -1)]
    bent = bent_lists(floors, more)
    for at, (some, n) in enumerate(floors):
        turned = [(some, given) for given in (n - 1, n + 1, 0, -1, -(10 ** 20), 10 ** 20)]
        turned += [(given, n) for given in bent_words(some, book)]
        bent += [floors[:at] + [given] + floors[at + 1:] for given in turned]
    return chance.sample(bent, min(len(bent), 60))


class WantedTest(unittest.TestCase):
    def test_plain(self):
        self.assertEqual(wanted(BOOK), ["00", "01", "10"])
        self.assertEqual(wanted((1, (("*", "a"),))), ["0", "1"])
        for width in (1, 2, 3, 4):
            self.assertEqual(wanted((width, ())), [])

    def test_against_the_deeds_of_all_words(self):
        for book in few_wanted_books(81, 4) + rich_books(82):
            words = wanted_by_words(book)
            if book[0] > 4 or len(words) > 6:
                refused(self, TooMany, wanted, book)
                continue
            found = told(self, wanted, book)
            self.assertEqual(found, words, book)
            self.assertIs(type(found), list)
            found.append("0")
            found[0] = "1"
            self.assertEqual(wanted(book), words)

    def test_six_and_seven(self):
        self.assertEqual(wanted((3, (("0**", "a"), ("10*", "b")))), all_words(3)[:6])
        for book in seven_wanted():
            refused(self, TooMany, wanted, book)


class FewestTest(unittest.TestCase):
    def look_over(self, book):
        answer = told(self, fewest, book)
        self.assertIs(type(answer), tuple)
        number, made, floors = answer
        self.assertIs(type(number), int)
        self.assertEqual(number, number_by_search(book), book)
        self.assertTrue(is_book(made), made)
        self.assertEqual(len(made[1]), number)
        self.assertTrue(do_the_same(book, made), (book, made))
        self.assertTrue(is_made(floors), floors)
        self.assertTrue(is_floor_by_words(book, number, floors), (book, floors))
        self.assertFalse(is_floor_by_words(book, number + 1, floors), (book, floors))
        self.assertIs(told(self, is_floor, book, number, floors), True)
        return answer

    def test_plain(self):
        self.assertEqual(self.look_over(BOOK)[0], 2)
        self.assertEqual(self.look_over((2, (("00", "a"), ("01", "b"), ("10", "c"))))[0], 3)
        self.assertEqual(self.look_over((2, (("01", "b"), ("00", "a"), ("11", "a"), ("10", "a"))))[0], 2)
        self.assertEqual(self.look_over((2, (("00", "a"), ("01", "a"))))[:2], (1, (2, (("0*", "a"),))))
        self.assertEqual(self.look_over((3, (("000", "a"), ("111", "a"))))[0], 2)

    def test_no_rows(self):
        for width in (1, 2, 3, 4):
            number, made, floors = self.look_over((width, ()))
            self.assertEqual((number, made), (0, (width, ())))

    def test_many_books(self):
        numbers = set()
        for book in few_wanted_books(83, 12) + small_books():
            numbers.add(self.look_over(book)[0])
        self.assertEqual(numbers, set(range(7)))

    def test_books_of_other_kinds(self):
        for book in rich_books(84):
            if book[0] <= 4 and len(wanted_by_words(book)) <= 6:
                self.look_over(book)

    def test_against_all_books(self):
        for width, most in ((1, 2), (2, 3)):
            for deeds, number in fewest_of_all_books(width, most).items():
                rows = [(word, deed) for word, deed in zip(all_words(width), deeds) if deed]
                self.assertEqual(self.look_over((width, tuple(rows)))[0], number, deeds)

    def test_no_book_of_width_2_needs_four_rows_of_two_deeds(self):
        self.assertEqual(len(fewest_of_all_books(2, 3)), 3 ** 4)

    def test_told_lists_are_the_askers_own(self):
        for book in few_wanted_books(85, 2):
            floors = fewest(book)[2]
            floors.append((("0",), 5))
            del floors[0]
            self.look_over(book)


class IsFloorTest(unittest.TestCase):
    def test_plain(self):
        self.assertIs(is_floor(BOOK, 2, FLOORS), True)
        self.assertIs(is_floor(BOOK, 1, FLOORS), True)
        self.assertIs(is_floor(BOOK, 0, FLOORS), True)
        self.assertIs(is_floor(BOOK, -5, FLOORS), True)
        self.assertIs(is_floor(BOOK, 3, FLOORS), False)
        self.assertIs(is_floor(BOOK, 1, FLOORS[:1]), False)
        self.assertIs(is_floor(BOOK, 1, [(("00", "01", "10"), 1)]), True)
        self.assertIs(is_floor(BOOK, 0, [(("00", "01", "10"), 0)]), True)
        self.assertIs(is_floor(BOOK, -2, [(("00", "01", "10"), -2)]), True)
        self.assertIs(is_floor(BOOK, -1, [(("00", "01", "10"), -2)]), False)
        for number in (-1, 0, 1):
            self.assertIs(is_floor(BOOK, number, []), False)
            self.assertIs(is_floor(BOOK, number, [((), 0)]), False)

    def test_plain_bent(self):
        for more in ((("11",), 0), (("01", "00"), 0), (("00", "00"), 0), (("0",), 0), (("",), 0), (("000",), -1),
                     ((), 1), (("00",), 2), (("00", "10"), 3), (("0*",), 0)):
            self.assertIs(told(self, is_floor, BOOK, 2, FLOORS + [more]), False, more)
            self.assertIs(told(self, is_floor, BOOK, 2, [more] + FLOORS), False, more)
        for more in (((), 0), ((), -1), (("00",), 1), (("00",), 0), (("00", "01", "10"), 1), (("00", "01"), -4)):
            self.assertIs(told(self, is_floor, BOOK, 2, FLOORS + [more]), True, more)
            self.assertIs(told(self, is_floor, BOOK, 2, [more] + FLOORS), True, more)

    def test_tuples_of_another_making_show_nothing(self):
        words = ("00", "01", "10")
        for more in ((), (words,), (words, 0, 0), (0, words), (list(words), 0), (words, True), (words, None),
                     (words, "0"), ("00", 0), (None, 0), ((0,), 0), ((None,), 0), ((["00"],), 0), ((("00",),), 0),
                     [words, 0], None, 0):
            self.assertIs(told(self, is_floor, BOOK, 2, FLOORS + [more]), False, more)

    def test_without_wanted_words(self):
        book = (2, ())
        for number, floors, right in ((0, [((), 0)], True), (-1, [((), 0)], True), (1, [((), 1)], False),
                                      (1, [((), 0)], False), (0, [], False), (0, [((), -1)], False),
                                      (0, [((), 0), (("00",), 0)], False), (0, [((), 0), ((), 1)], False)):
            self.assertIs(told(self, is_floor, book, number, floors), right, (number, floors))

    def test_told_floors_and_numbers_about_the_fewest(self):
        for book in few_wanted_books(86, 3):
            number, made, floors = fewest(book)
            for given in (number - 2, number - 1, number, number + 1, number + 2, 0, -1, 10 ** 20, -(10 ** 20)):
                self.assertIs(told(self, is_floor, book, given, floors), is_floor_by_words(book, given, floors))

    def test_told_floors_bent(self):
        chance = random.Random(87)
        seen = set()
        for book in few_wanted_books(88, 3):
            number, made, floors = fewest(book)
            for bent in bent_floors(chance, book, floors):
                for given in (number - 1, number, number + 1):
                    right = is_floor_by_words(book, given, bent)
                    self.assertIs(told(self, is_floor, book, given, bent), right, (book, given, bent))
                    seen.add((given - number, right))
        self.assertEqual(seen, {(-1, True), (-1, False), (0, True), (0, False), (1, False)})

    def test_floors_of_lesser_numbers(self):
        for book in few_wanted_books(89, 2):
            number, made, floors = fewest(book)
            for less in range(1, number + 1):
                lower = [(some, n - less) for some, n in floors]
                self.assertIs(is_floor(book, number - less, lower), is_floor_by_words(book, number - less, lower))
                needed = [(some, n) for some, n in floors if n > 0]
                self.assertIs(is_floor(book, number, needed), True)

    def test_no_floors_show_more_than_the_fewest(self):
        for book in few_wanted_books(90, 2):
            number, made, floors = fewest(book)
            raised = [(some, n + 1) for some, n in floors]
            self.assertIs(is_floor(book, number + 1, raised), False)
            self.assertIs(is_floor(book, number + 1, [given for given in raised if given[0]]), False)


class RefusalTest(unittest.TestCase):
    def ask_all(self, error, book):
        refused(self, error, wanted, book)
        refused(self, error, fewest, book)
        for number in (0, 1, -1, 7):
            for floors in ([], [((), 0)], [(("00",), 1)]):
                refused(self, error, is_floor, book, number, floors)

    def test_no_book_goes_first(self):
        for thing in no_books():
            self.ask_all(NoBook, thing)

    def test_too_many(self):
        for book in seven_wanted():
            self.ask_all(TooMany, book)
        for width in (5, 6):
            for rows in ((), (("0" * width, "a"),), (("*" * width, "a"),)):
                self.ask_all(TooMany, (width, rows))

    def test_just_six_and_width_four(self):
        for book in ((4, tuple((word, "a") for word in all_words(4)[:6])), (3, (("0**", "a"), ("10*", "b"))),
                     (4, tuple((word, "a") for word in all_words(4)[:6]) * 2)):
            number, made, floors = fewest(book)
            self.assertEqual(number, 2)
            self.assertIs(is_floor(book, 2, floors), True)


if __name__ == "__main__":
    unittest.main()
