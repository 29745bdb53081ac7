"""Rows that change places, step by step, where each step leaves a book that does the same."""

from starsieve.alike import parting_word
from starsieve.books import need_book
from starsieve.errors import NoOrder, NoRow, TooMany
from starsieve.forms import is_place

MOST_ROWS_MOVED = 5
WIDEST_MOVED = 4


def first_order(book):
    """The order in which the book's rows stand."""
    return tuple(range(len(book[1])))


def is_order(book, thing):
    """Whether thing, which may be anything, is an order of the book."""
    many = len(book[1])
    if not isinstance(thing, tuple) or not all([is_place(many, number) for number in thing]):
        return False
    return sorted(thing) == list(range(many))


def need_order(book, order):
    """Refuses with NoOrder what is no order of the book."""
    if not is_order(book, order):
        raise NoOrder("an order is a tuple of the numbers of all rows, each once")


def need_movable(book):
    """Refuses with NoBook what is no book, then with TooMany one whose orders are too many to look through."""
    need_book(book)
    width, rows = book
    if len(rows) > MOST_ROWS_MOVED or width > WIDEST_MOVED:
        raise TooMany(f"at most {MOST_ROWS_MOVED} rows and width {WIDEST_MOVED} are looked through")


def by_order(book, order):
    """The book with its rows in the order."""
    need_book(book)
    need_order(book, order)
    width, rows = book
    return (width, tuple([rows[number] for number in order]))


def exchanged(things, place):
    """The tuple with the things at the place and behind it exchanged."""
    return things[:place] + (things[place + 1], things[place]) + things[place + 2:]


def may_swap(book, place):
    """Whether the book does the same with the rows at the place and behind it exchanged."""
    need_book(book)
    width, rows = book
    if not is_place(len(rows) - 1, place):
        raise NoRow(f"the book has {len(rows)} rows, numbered from 0, and the last has none behind it")
    return parting_word(book, (width, exchanged(rows, place))) is None


def is_good(book, order):
    """Whether the book does the same with its rows in the order."""
    return parting_word(book, by_order(book, order)) is None


def steps_from(order):
    """All tuples (place, order) of steps and the orders to which they lead."""
    return [(place, exchanged(order, place)) for place in range(len(order) - 1)]


def good_ways(book, order):
    """The fewest steps to all good orders that steps lead to, or to those no further than this one if it is there."""
    ways = {first_order(book): []}
    bad = {}
    newest = list(ways)
    while newest and order not in ways:
        further = []
        for here in newest:
            for place, there in steps_from(here):
                if there in ways or there in bad:
                    continue
                if is_good(book, there):
                    ways[there] = ways[here] + [place]
                    further.append(there)
                else:
                    bad[there] = True
        newest = further
    return ways


def way(book, order):
    """("way", fewest steps by good orders to this one), or ("apart", all orders to which such steps lead)."""
    need_movable(book)
    need_order(book, order)
    ways = good_ways(book, order)
    if order in ways:
        return ("way", ways[order])
    return ("apart", list(ways))


def is_way(book, order, steps):
    """Whether the steps lead to the order, by good orders alone."""
    need_movable(book)
    need_order(book, order)
    here = first_order(book)
    for place in steps:
        if not is_place(len(here) - 1, place):
            return False
        here = exchanged(here, place)
        if not is_good(book, here):
            return False
    return here == order


def is_apart(book, order, orders):
    """Whether the orders show that no steps by good orders lead to this one."""
    need_movable(book)
    need_order(book, order)
    if not all([is_order(book, given) for given in orders]):
        return False
    standing = {given: True for given in orders}
    if len(standing) != len(orders) or first_order(book) not in standing or order in standing:
        return False
    reached = [there for given in orders for place, there in steps_from(given) if there not in standing]
    return not any([is_good(book, there) for there in reached])
