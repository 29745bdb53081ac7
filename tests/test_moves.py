"""Points 2, 6, 7, 13 and 14: rows that change places."""

import functools
import itertools
import random
import unittest

from samples import (
    WIDTHS, arranged, bent_lists, do_the_same, no_books, no_rows, random_book, refused, rich_books, small_books, things,
    told, turned_about,
)
from starsieve.errors import NoBook, NoOrder, NoRow, TooMany
from starsieve.moves import by_order, is_apart, is_way, may_swap, way

BOOK = (2, (("0*", "a"), ("*1", "b"), ("1*", "c")))


def all_orders(many):
    return list(itertools.permutations(range(many)))


def movable_books(seed, each):
    """Books of at most five rows and width 4 at most; of four and five rows fewer, as they have many orders."""
    chance = random.Random(seed)
    books = []
    for width in (1, 2, 3, 4):
        for many in range(4):
            books += [random_book(chance, width, many, "01**", ("a", "b", "c")) for at in range(each)]
        books += [random_book(chance, width, 4, "01**", ("a", "b", "c")), random_book(chance, width, 4)]
        books += [random_book(chance, width, 5, "01*" + "*" * (4 - width), deeds) for deeds in ("ab", "abc")]
    return books + [BOOK]


def hidden_steps_books():
    """Books in which rows change places only while other rows hide what they would turn, and such without a way."""
    return [
        (1, (("*", "a"), ("0", "b"), ("0", "c"))), (2, (("0*", "a"), ("*0", "b"), ("00", "c"))),
        (2, (("00", "a"), ("0*", "b"), ("*0", "c"), ("**", "d"))), (1, (("0", "a"), ("0", "b"), ("0", "a"))),
        (2, (("**", "a"), ("0*", "b"), ("*0", "c"), ("11", "d"))), (1, (("*", "a"), ("*", "b"), ("*", "a"))),
        (2, (("00", "a"), ("01", "b"), ("0*", "c"), ("0*", "d"), ("1*", "a"))),
    ]


def no_orders(many):
    """Things that are no order of so many rows."""
    first = tuple(range(many))
    wrong = [list(first), first + (many,), first + (0,), (-1,) + first, first + (None,), (first,), [first], str(first)]
    wrong += [first[:at] + first[at + 1:] for at in range(many)]
    wrong += [first[:at] + (given,) + first[at + 1:] for at in range(many)
              for given in (-1, at - many, at + 1, at - 1, many, 10 ** 20, str(at), None, (at,), [at], [], True, False)
              if type(given) is not int or given != at]
    others = things() + ["0", (True,), (False,), (0, True), (True, 0), (False, 1), (1, False)]
    return wrong + [thing for thing in others if repr(thing) not in [repr(order) for order in all_orders(min(many, 3))]]


@functools.lru_cache(maxsize=None)
def is_good(book, order):
    return do_the_same(book, arranged(book, order))


@functools.lru_cache(maxsize=None)
def distances(book):
    """How many steps by good orders lead to each order that they lead to."""
    first = tuple(range(len(book[1])))
    far, edge = {first: 0}, [first]
    for order in edge:
        for place in range(len(order) - 1):
            there = turned_about(order, place)
            if there not in far and is_good(book, there):
                far[there] = far[order] + 1
                edge.append(there)
    return far


def is_way_by_words(book, order, steps):
    here = tuple(range(len(book[1])))
    for place in steps:
        if place < 0 or place + 1 >= len(here):
            return False
        here = turned_about(here, place)
        if not is_good(book, here):
            return False
    return here == order


def is_apart_by_words(book, order, orders):
    many = len(book[1])
    if any(given not in all_orders(many) for given in orders) or len(set(orders)) != len(orders):
        return False
    if tuple(range(many)) not in orders or order in orders:
        return False
    near = [turned_about(given, place) for given in orders for place in range(many - 1)]
    return all(there in orders for there in near if is_good(book, there))


class ByOrderTest(unittest.TestCase):
    def test_plain(self):
        self.assertEqual(by_order(BOOK, (2, 0, 1)), (2, (("1*", "c"), ("0*", "a"), ("*1", "b"))))
        self.assertEqual(by_order((3, ()), ()), (3, ()))

    def test_many_orders(self):
        chance = random.Random(61)
        for book in rich_books(62):
            many = len(book[1])
            orders = all_orders(many) if many < 4 else [tuple(chance.sample(range(many), many)) for at in range(5)]
            for order in orders:
                made = told(self, by_order, book, order)
                self.assertEqual(made, arranged(book, order))
                self.assertIs(type(made), tuple)
                self.assertIs(type(made[1]), tuple)

    def test_no_order(self):
        for many in (0, 1, 2, 3, 5, 6, 12):
            for width in (1, 4, 6):
                for order in no_orders(many):
                    refused(self, NoOrder, by_order, (width, (("*" * width, "a"),) * many), order)

    def test_a_truth_is_no_number(self):
        book = (1, (("0", "a"), ("1", "b")))
        self.assertEqual(by_order(book, (1, 0)), (1, (("1", "b"), ("0", "a"))))
        for order in ((True, 0), (1, False), (True, False), (False, True), (0, True)):
            refused(self, NoOrder, by_order, book, order)


class MaySwapTest(unittest.TestCase):
    def test_plain(self):
        self.assertIs(may_swap(BOOK, 0), False)
        self.assertIs(may_swap(BOOK, 1), False)
        self.assertIs(may_swap((2, (("0*", "a"), ("1*", "b"))), 0), True)
        self.assertIs(may_swap((2, (("0*", "a"), ("**", "a"))), 0), True)

    def test_rows_ahead_may_hide_what_both_fit(self):
        rows = (("00", "a"), ("0*", "b"), ("*0", "c"))
        self.assertIs(may_swap((2, rows), 1), True)
        self.assertIs(may_swap((2, rows[1:]), 0), False)

    def test_each_place_against_all_words(self):
        seen = set()
        for book in rich_books(63):
            for place in range(len(book[1]) - 1):
                right = do_the_same(book, (book[0], turned_about(book[1], place)))
                for again in range(2):
                    self.assertIs(told(self, may_swap, book, place), right, (book, place))
                seen.add((book[0], right))
        self.assertEqual(seen, {(width, right) for width in WIDTHS for right in (True, False)})

    def test_no_row(self):
        for many in (0, 1, 2, 12):
            for place in [many - 1, many, -1, -many] + no_rows(many):
                if place != 0 or type(place) is not int or many < 2:
                    refused(self, NoRow, may_swap, (2, (("0*", "a"),) * many), place)


class WayTest(unittest.TestCase):
    def look_over(self, book, order):
        far = distances(book)
        answer = told(self, way, book, order)
        self.assertIs(type(answer), tuple)
        self.assertEqual(len(answer), 2)
        self.assertIs(type(answer[1]), list)
        if order in far:
            self.assertEqual((answer[0], len(answer[1])), ("way", far[order]), (book, order))
            self.assertTrue(all(type(place) is int for place in answer[1]))
            self.assertTrue(is_way_by_words(book, order, answer[1]), (book, order, answer))
            self.assertIs(told(self, is_way, book, order, answer[1]), True)
        else:
            self.assertEqual(answer[0], "apart", (book, order))
            self.assertTrue(all(type(given) is tuple for given in answer[1]))
            self.assertTrue(all(type(number) is int for given in answer[1] for number in given))
            self.assertTrue(is_apart_by_words(book, order, answer[1]), (book, order, answer))
            self.assertIs(told(self, is_apart, book, order, answer[1]), True)
        return answer

    def test_plain(self):
        rows = (("0*", "a"), ("1*", "b"), ("10", "b"))
        self.assertEqual(way((2, rows), (1, 0, 2)), ("way", [0]))
        self.assertEqual(way((2, rows), (1, 2, 0)), ("way", [0, 1]))
        self.assertEqual(way(BOOK, (0, 1, 2)), ("way", []))
        self.assertEqual(way(BOOK, (1, 0, 2)), ("apart", [(0, 1, 2)]))
        self.assertEqual(way((4, ()), ()), ("way", []))

    def test_a_row_comes_to_stand_first_behind_others(self):
        book = (1, (("0", "a"), ("0", "b"), ("0", "a")))
        self.assertEqual(self.look_over(book, (2, 1, 0))[0], "way")
        self.assertEqual(way(book, (2, 1, 0)), ("way", [1, 0, 1]))
        self.assertEqual(self.look_over(book, (1, 2, 0))[0], "apart")

    def test_all_orders_of_many_books(self):
        seen = set()
        for book in movable_books(64, 4) + small_books() + hidden_steps_books():
            for order in all_orders(len(book[1])):
                answer = self.look_over(book, order)
                seen.add((len(book[1]), answer[0]))
        self.assertEqual(seen, {(many, "way") for many in range(6)} | {(many, "apart") for many in range(2, 6)})

    def test_all_rows_change_freely(self):
        book = (3, tuple((form, "a") for form in ("0**", "*1*", "11*", "**0", "***")))
        self.assertEqual(len(self.look_over(book, (4, 3, 2, 1, 0))[1]), 10)

    def test_told_lists_are_the_askers_own(self):
        for book, order in ((BOOK, (1, 0, 2)), ((1, (("0", "a"), ("1", "b"))), (1, 0)), (BOOK, (0, 1, 2))):
            answer = way(book, order)
            answer[1].append(7)
            answer[1].insert(0, (2, 1, 0))
            self.look_over(book, order)


class IsWayTest(unittest.TestCase):
    def test_plain(self):
        book = (1, (("0", "a"), ("1", "b"), ("1", "c")))
        self.assertIs(is_way(book, (1, 0, 2), [0]), True)
        self.assertIs(is_way(book, (1, 2, 0), [0, 1]), True)
        self.assertIs(is_way(book, (1, 0, 2), [0, 0, 0]), True)
        self.assertIs(is_way(book, (0, 1, 2), []), True)
        self.assertIs(is_way(book, (0, 1, 2), [0, 0]), True)
        for steps in ([], [1], [0, 0], [-3], [-1], [2], [10 ** 20], [0, 1], [0, 2], [0, -1], [1, 1, 0]):
            self.assertIs(is_way(book, (1, 0, 2), steps), False, steps)

    def test_only_by_good_orders(self):
        self.assertIs(is_way(BOOK, (0, 1, 2), [0, 0]), False)
        self.assertIs(is_way(BOOK, (1, 0, 2), [0]), False)

    def test_told_ways_bent(self):
        seen = set()
        for book in movable_books(65, 2) + hidden_steps_books():
            many = len(book[1])
            for order in all_orders(many)[::7 if many == 5 else 1]:
                name, steps = way(book, order)
                if name == "way":
                    for bent in bent_lists(steps, [-1, 0, 1, many - 2, many - 1, many]) + [steps + [0, 0]]:
                        right = is_way_by_words(book, order, bent)
                        self.assertIs(told(self, is_way, book, order, bent), right, (book, order, bent))
                        seen.add(right)
                    self.assertIs(told(self, is_apart, book, order, list(distances(book))), False)
        self.assertEqual(seen, {True, False})

    def test_any_lists(self):
        chance = random.Random(66)
        for book in movable_books(67, 2) + hidden_steps_books():
            many = len(book[1])
            for at in range(30):
                steps = [chance.randrange(-1, many) for step in range(chance.randrange(6))]
                order = chance.choice(all_orders(many))
                self.assertIs(told(self, is_way, book, order, steps), is_way_by_words(book, order, steps))


class IsApartTest(unittest.TestCase):
    def look_over(self, book, order, orders):
        right = is_apart_by_words(book, order, orders)
        self.assertIs(told(self, is_apart, book, order, orders), right, (book, order, orders))
        return right

    def test_plain(self):
        book = (1, (("0", "a"), ("1", "b"), ("1", "c")))
        closed = [(0, 1, 2), (1, 0, 2), (1, 2, 0)]
        self.assertIs(is_apart(book, (0, 2, 1), closed), True)
        self.assertIs(is_apart(book, (2, 1, 0), closed[::-1]), True)
        for orders in ([], closed[:2], closed[1:], closed[:1] + closed[2:], closed + closed[:1], closed + [(0, 2, 1)],
                       closed + [(0, 1)], closed + [()], closed + [(0, 1, 3)], closed + [(-1, 0, 1)]):
            self.assertIs(is_apart(book, (0, 2, 1), orders), False, orders)
        for order in closed:
            self.assertIs(is_apart(book, order, closed), False)

    def test_orders_that_are_not_good_may_stand_in_it(self):
        book = (1, (("0", "a"), ("0", "b"), ("0", "a")))
        good = [(0, 1, 2), (0, 2, 1), (2, 0, 1), (2, 1, 0)]
        self.assertIs(is_apart(book, (1, 0, 2), good), True)
        self.assertIs(is_apart(book, (1, 0, 2), good + [(1, 2, 0)]), True)
        self.assertIs(is_apart(book, (1, 2, 0), good + [(1, 2, 0)]), False)
        self.assertIs(is_apart(book, (1, 0, 2), good[:3] + [(1, 2, 0)]), False)

    def test_told_orders_bent(self):
        seen = set()
        for book in movable_books(68, 2) + hidden_steps_books():
            many = len(book[1])
            orders = [order for order in all_orders(many) if order not in distances(book)]
            for order in orders[::max(1, len(orders) // 4)]:
                name, listed = way(book, order)
                self.assertEqual(name, "apart")
                more = orders[:3] + [order, (), tuple(range(many + 1)), (0,) * many, (-1,) + tuple(range(1, many))]
                bent = bent_lists(listed, more) if len(listed) < 12 else bent_lists(listed, more)[::9]
                for given in bent:
                    seen.add(self.look_over(book, order, given))
                for steps in ([], [0], [many - 2]):
                    self.assertIs(told(self, is_way, book, order, steps), False)
        self.assertEqual(seen, {True, False})

    def test_any_lists(self):
        chance = random.Random(69)
        for book in movable_books(70, 2) + hidden_steps_books():
            orders = all_orders(len(book[1]))
            for at in range(30):
                given = chance.sample(orders, chance.randrange(min(len(orders), 8) + 1))
                given += [tuple(range(len(book[1])))] if chance.random() < 0.7 else []
                self.look_over(book, chance.choice(orders), given)


class RefusalTest(unittest.TestCase):
    def ask_all(self, error, book, order):
        refused(self, error, way, book, order)
        for steps in ([], [0], [-1]):
            refused(self, error, is_way, book, order, steps)
        for orders in ([], [(0, 1)], [()]):
            refused(self, error, is_apart, book, order, orders)

    def test_no_book_goes_first(self):
        for thing in no_books():
            for order in ((), (0,), (0, 0), None, [0], True):
                refused(self, NoBook, by_order, thing, order)
                self.ask_all(NoBook, thing, order)
            for place in (0, 1, -1, True, None, "0", [0]):
                refused(self, NoBook, may_swap, thing, place)

    def test_too_many_goes_ahead_of_no_order(self):
        for width, many in ((4, 6), (4, 7), (1, 12), (5, 0), (5, 5), (6, 1), (6, 12)):
            book = (width, (("*" * width, "a"),) * many)
            for order in (tuple(range(many)), tuple(range(many))[::-1]):
                self.ask_all(TooMany, book, order)
            for order in no_orders(many)[:20]:
                self.ask_all(TooMany, book, order)

    def test_just_five_rows_and_width_four(self):
        book = (4, (("****", "a"),) * 5)
        self.assertEqual(way(book, (0, 1, 2, 4, 3)), ("way", [3]))
        self.assertIs(is_way(book, (0, 1, 2, 4, 3), [3]), True)
        self.assertIs(is_apart(book, (0, 1, 2, 4, 3), [(0, 1, 2, 3, 4)]), False)

    def test_no_order(self):
        for many in range(6):
            for width in (1, 4):
                for order in no_orders(many):
                    self.ask_all(NoOrder, (width, (("*" * width, "a"),) * many), order)


if __name__ == "__main__":
    unittest.main()
