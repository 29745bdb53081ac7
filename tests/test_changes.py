"""Points 2, 6, 19 and 20: scripts, and the fewest rows put in and taken out to do what another book does."""

import functools
import itertools
import random
import unittest

from samples import (
    DEEDS, WIDTHS, all_forms, all_words, bent_lists, bent_words, books_that_do_the_same, deeds_by_words, do_the_same,
    few_wanted_book, few_wanted_books, no_books, number_by_search, random_book, random_form, refused, rich_books,
    seven_wanted, small_books, some_books, steps_by_words, told, wanted_by_words, words_of,
)
from starsieve.books import is_book
from starsieve.changes import changes, cost, is_change_floor, made_by
from starsieve.errors import Full, NoBook, NoMatch, NoRow, TooMany

KEEP, OUT = ("keep",), ("out",)
BOOK = (2, (("0*", "a"), ("*1", "b")))
GOAL = (2, (("00", "a"), ("*1", "b")))


def made_by_rows(book, script):
    """The rows kept and put in, or the refusal."""
    if sum(thing in (KEEP, OUT) for thing in script) != len(book[1]):
        return NoRow
    left, made = list(book[1]), []
    for name, *row in script:
        row = tuple(row) if name == "in" else left.pop(0)
        made += [row] if name != "out" else []
    return (book[0], tuple(made)) if len(made) <= 12 else Full


def cost_by_rows(book, goal, script):
    made = made_by_rows(book, script)
    if made in (NoRow, Full) or not do_the_same(made, goal):
        return None
    return sum(thing != KEEP for thing in script)


def random_script(chance, book, ins, further=0):
    """Keeps or takes out each row, puts some in, and so many keeps and outs more or fewer."""
    script = [chance.choice((KEEP, KEEP, OUT)) for row in range(max(0, len(book[1]) + further))]
    for at in range(ins):
        row = ("in", random_form(chance, book[0], "01**"), chance.choice(DEEDS + ("b",)))
        script.insert(chance.randrange(len(script) + 1), row)
    return script


@functools.lru_cache(maxsize=None)
def moves_by_words(book, goal, at, some):
    """All moves, as tuples (of the script, cost, row, those left)."""
    found = [(("in", form, deed), 1, at, left) for form, deed, left in steps_by_words(goal, some)]
    if at == len(book[1]):
        return found
    found.append((OUT, 1, at + 1, some))
    form, deed = book[1][at]
    deeds = dict(zip(all_words(goal[0]), deeds_by_words(goal)))
    wrong = [word for word in words_of(form) if deeds[word] is None or (word in some and deeds[word] != deed)]
    if not wrong:
        found.append((KEEP, 0, at + 1, tuple(word for word in some if word not in words_of(form))))
    return found


@functools.lru_cache(maxsize=None)
def least_cost(book, goal):
    """All that scripts of cost 0 come to, then of cost 1, and so on, until one comes to the end."""
    reached, number = {(0, tuple(wanted_by_words(goal)))}, 0
    while True:
        edge = list(reached)
        for at, some in edge:
            free = [move[2:] for move in moves_by_words(book, goal, at, some) if move[1] == 0]
            edge += [there for there in free if there not in reached]
            reached |= set(free)
        if (len(book[1]), ()) in reached:
            return number
        reached = {move[2:] for at, some in reached for move in moves_by_words(book, goal, at, some) if move[1] == 1}
        number += 1


def all_scripts(book, most, deeds):
    """All scripts for a book of at most such a cost."""
    rows = [("in", form, deed) for form in all_forms(book[0]) for deed in deeds]
    for kept in itertools.product((KEEP, OUT), repeat=len(book[1])):
        for ins in range(most - kept.count(OUT) + 1):
            for places in itertools.combinations_with_replacement(range(len(kept) + 1), ins):
                for given in itertools.product(rows, repeat=ins):
                    script = list(kept)
                    for place, row in sorted(zip(places, given), reverse=True):
                        script.insert(place, row)
                    yield script


def is_change_floor_by_words(book, goal, number, floors):
    words, many = wanted_by_words(goal), len(book[1])
    for at, some, n in floors:
        if not 0 <= at <= many or list(some) != sorted(set(some)) or not set(some) <= set(words):
            return False
    high = {}
    for at, some, n in sorted(floors):
        high[at, some] = n
    for at, some, n in floors:
        if n > 0 and (at, some) == (many, ()):
            return False
        for thing, price, there, left in moves_by_words(book, goal, at, some) if n > 0 else []:
            if n - price > 0 and high.get((there, left), 0) < n - price:
                return False
    return any((at, some) == (0, tuple(words)) and n >= number for at, some, n in floors)


def is_made(floors):
    """Whether floors are made as told: a list of tuples of a number, a tuple of texts and a number."""
    if type(floors) is not list or not all(type(given) is tuple and len(given) == 3 for given in floors):
        return False
    kinds = [(type(at), type(some), type(n)) for at, some, n in floors]
    return set(kinds) == {(int, tuple, int)} and all(type(word) is str for at, some, n in floors for word in some)


def is_script(width, script):
    rows = [thing for thing in script if thing not in (KEEP, OUT)]
    if type(script) is not list or not all(type(thing) is tuple and len(thing) == 3 for thing in rows):
        return False
    return all(name == "in" and is_book((width, ((form, deed),))) for name, form, deed in rows)


def bent_floors(chance, book, goal, floors):
    """The floors with one thing in them turned, which may leave them right."""
    words, many = tuple(wanted_by_words(goal)), len(book[1])
    more = [(many, (), 0), (many, (), 1), (many, (), -1), (many + 1, (), 0), (-1, (), 0), (0, words, 9), (0, words, 0),
            (0, words[::-1], 0), (0, words + words[:1], 0), (0, ("",), 0), (0, tuple(all_words(goal[0])), -1),
            (many, words, 1), (many, words, 9), (0, (), 1), (10 ** 20, (), 0)]
    bent = bent_lists(floors, more)
    for k, (at, some, n) in enumerate(floors):
        turned = [(at, some, given) for given in (n - 1, n + 1, 0, -1, -(10 ** 20), 10 ** 20)]
        turned += [(given, some, n) for given in (at - 1, at + 1, 0, many, many + 1, -1)]
        turned += [(at, given, n) for given in bent_words(some, goal)]
        bent += [floors[:k] + [given] + floors[k + 1:] for given in turned]
    return chance.sample(bent, min(len(bent), 50))


def pairs(seed, each):
    """Books of at most four rows and goals with at most six wanted words, near to one another or not."""
    chance = random.Random(seed)
    found = []
    for goal in few_wanted_books(seed, each):
        width = goal[0]
        found.append((random_book(chance, width, chance.randrange(5), "01*", ("a", "b", "c")), goal))
        words = wanted_by_words(goal)
        inner = [form for form in all_forms(width) if words_of(form) <= set(words)] or ["0" * width]
        rows = [(chance.choice(inner), chance.choice("abc")) for at in range(4)]
        near = [row for row in goal[1] if chance.random() < 0.6] + rows[:2]
        chance.shuffle(near)
        found += [((width, tuple(rows)), goal), ((width, tuple(near[:4])), goal), ((width, goal[1][:4]), goal)]
    return found


class MadeByTest(unittest.TestCase):
    def look_over(self, book, script):
        right = made_by_rows(book, script)
        if right in (NoRow, Full):
            refused(self, right, made_by, book, script)
            return right
        made = told(self, made_by, book, script)
        self.assertEqual(made, right, (book, script))
        self.assertIs(type(made), tuple)
        self.assertIs(type(made[1]), tuple)
        self.assertTrue(all(type(row) is tuple for row in made[1]))
        return None

    def test_plain(self):
        row = ("in", "11", "c")
        self.assertEqual(made_by(BOOK, [KEEP, KEEP]), BOOK)
        self.assertEqual(made_by(BOOK, [OUT, OUT]), (2, ()))
        self.assertEqual(made_by(BOOK, [row, KEEP, OUT]), (2, (("11", "c"), ("0*", "a"))))
        self.assertEqual(made_by(BOOK, [OUT, row, KEEP, row]), (2, (("11", "c"), ("*1", "b"), ("11", "c"))))
        self.assertEqual(made_by((2, ()), []), (2, ()))
        for script in ([], [KEEP], [OUT], [KEEP] * 3, [OUT] * 3, [KEEP, row], [KEEP, OUT, OUT, row], [row, row]):
            refused(self, NoRow, made_by, BOOK, script)

    def test_just_twelve_and_thirteen(self):
        row = ("in", "11", "c")
        for many in range(13):
            book = (2, (("0*", "a"),) * many)
            self.assertEqual(made_by(book, [KEEP] * many + [row] * (12 - many))[1][many:], (("11", "c"),) * (12 - many))
            refused(self, Full, made_by, book, [row] * (13 - many) + [KEEP] * many)
            refused(self, Full, made_by, book, [OUT] * many + [row] * 13)
            refused(self, NoRow, made_by, book, [KEEP] * many + [row] * 13 + [OUT])
            if many:
                self.assertEqual(len(made_by(book, [row] * (13 - many) + [OUT] + [KEEP] * (many - 1))[1]), 12)
                refused(self, NoRow, made_by, book, [row] * 13 + [KEEP] * (many - 1))

    def test_any_scripts(self):
        chance = random.Random(91)
        seen = set()
        for book in rich_books(92):
            for further in (-1, 0, 0, 0, 1):
                seen.add(self.look_over(book, random_script(chance, book, chance.randrange(8), further)))
        self.assertEqual(seen, {None, NoRow, Full})

    def test_what_is_done_to_the_script_changes_nothing(self):
        script = [KEEP, ("in", "11", "c"), OUT]
        made = made_by(BOOK, script)
        script.clear()
        self.assertEqual(made, (2, (("0*", "a"), ("11", "c"))))


class CostTest(unittest.TestCase):
    def look_over(self, book, goal, script):
        right = cost_by_rows(book, goal, script)
        answer = told(self, cost, book, goal, script)
        self.assertEqual(answer, right, (book, goal, script))
        self.assertIs(type(answer), type(right))
        return right

    def test_plain(self):
        self.assertEqual(cost(BOOK, BOOK, [KEEP, KEEP]), 0)
        self.assertEqual(cost(BOOK, GOAL, [OUT, ("in", "00", "a"), OUT, ("in", "*1", "b")]), 4)
        self.assertEqual(cost(BOOK, GOAL, [OUT, ("in", "00", "a"), KEEP]), 2)
        self.assertEqual(cost(BOOK, GOAL, [("in", "01", "b"), KEEP, KEEP]), 1)
        for script in ([KEEP, KEEP], [KEEP], [], [("in", "01", "b"), KEEP], [("in", "01", "b")] * 11 + [KEEP, KEEP],
                       [KEEP, KEEP, ("in", "01", "b")], [("in", "01", "c"), KEEP, KEEP], [KEEP] * 3):
            self.assertIsNone(cost(BOOK, GOAL, script), script)

    def test_a_deed_and_none(self):
        self.assertIsNone(cost((1, ()), (1, ()), [("in", "0", "a")]))
        self.assertIsNone(cost((1, ()), (1, (("0", "a"),)), []))
        self.assertEqual(cost((1, (("0", "a"),)), (1, ()), [OUT]), 1)

    def test_deeds_called_like_the_names_in_a_script(self):
        script = [("in", "00", "keep"), OUT, ("in", "01", "out"), ("in", "10", "in"), OUT]
        made = (2, (("00", "keep"), ("01", "out"), ("10", "in")))
        self.assertEqual(made_by(BOOK, script), made)
        self.assertEqual(cost(BOOK, made, script), 5)
        self.assertEqual(cost(made, BOOK, [OUT] * 3 + [("in",) + row for row in BOOK[1]]), 5)
        number, found, floors = changes((2, ()), made)
        self.assertEqual((number, cost((2, ()), made, found)), (3, 3))

    def test_any_scripts_of_any_books(self):
        chance = random.Random(93)
        seen = set()
        for book in rich_books(94):
            for further in (-1, 0, 0, 1):
                script = random_script(chance, book, chance.randrange(6), further)
                made = made_by_rows(book, script)
                for goal in [book, random_book(chance, book[0], chance.randrange(13))]:
                    self.look_over(book, goal, script)
                if made not in (NoRow, Full):
                    goals = books_that_do_the_same(made)
                    goal = chance.choice(goals)
                    seen.add((book[0], self.look_over(book, goal, script) is None))
                    self.look_over(book, goal, [KEEP] * len(book[1]))
        self.assertEqual(seen, {(width, False) for width in WIDTHS})

    def test_scripts_with_one_thing_turned(self):
        chance = random.Random(95)
        seen = set()
        for book in some_books()[::2]:
            script = random_script(chance, book, chance.randrange(3))
            made = made_by_rows(book, script)
            if made is not Full:
                more = [KEEP, OUT, ("in", "*" * book[0], "a"), ("in", "0" * book[0], "b")]
                for bent in bent_lists(script, more):
                    seen.add(self.look_over(book, made, bent) is None)
        self.assertEqual(seen, {True, False})


class ChangesTest(unittest.TestCase):
    def look_over(self, book, goal):
        answer = told(self, changes, book, goal)
        self.assertIs(type(answer), tuple)
        number, script, floors = answer
        self.assertIs(type(number), int)
        self.assertEqual(number, least_cost(book, goal), (book, goal))
        self.assertTrue(is_script(book[0], script), script)
        self.assertEqual(cost_by_rows(book, goal, script), number, (book, goal, script))
        self.assertTrue(is_made(floors), floors)
        self.assertTrue(is_change_floor_by_words(book, goal, number, floors), (book, goal, floors))
        self.assertFalse(is_change_floor_by_words(book, goal, number + 1, floors), (book, goal, floors))
        self.assertIs(told(self, is_change_floor, book, goal, number, floors), True)
        self.assertEqual(told(self, cost, book, goal, script), number)
        return answer

    def test_plain(self):
        self.assertEqual(self.look_over(BOOK, GOAL)[:2], (1, [("in", "01", "b"), KEEP, KEEP]))
        self.assertEqual(self.look_over(GOAL, BOOK)[0], 1)
        self.assertEqual(self.look_over((2, ()), BOOK)[0], 2)
        self.assertEqual(self.look_over(BOOK, (2, ()))[:2], (2, [OUT, OUT]))
        self.assertEqual(self.look_over((2, ()), (2, ()))[:2], (0, []))

    def test_many_pairs(self):
        numbers, kinds = set(), set()
        for book, goal in pairs(96, 3):
            number, script, floors = self.look_over(book, goal)
            numbers.add(number)
            kinds |= {thing[0] for thing in script}
        self.assertLessEqual(set(range(7)), numbers)
        self.assertEqual(kinds, {"keep", "out", "in"})

    def test_all_pairs_of_small_books(self):
        books = [book for book in small_books() if book[0] == 1]
        for book in books:
            for goal in books[::3]:
                self.look_over(book, goal)

    def test_no_cheaper_script_is_right(self):
        chance = random.Random(97)
        narrow = [book for book in small_books() if book[0] == 1]
        found = [(book, goal) for book in narrow[::2] for goal in narrow[::5]]
        found += [(random_book(chance, 2, chance.randrange(4), "01*"), few_wanted_book(chance, 2, many, ("a", "b")))
                  for many in (1, 2, 3, 4) for at in range(8)]
        for book, goal in found:
            number = changes(book, goal)[0]
            for script in all_scripts(book, min(number - 1, 2), ("a", "b")):
                self.assertIsNone(cost_by_rows(book, goal, script), (book, goal, script))

    def test_to_itself_and_to_one_that_does_the_same(self):
        for book in few_wanted_books(98, 2):
            for other in [book] + books_that_do_the_same(book)[:3]:
                if len(book[1]) <= 4:
                    number, script, floors = self.look_over(book, other)
                    self.assertEqual((number, script), (0, [KEEP] * len(book[1])))

    def test_from_no_rows(self):
        for goal in few_wanted_books(99, 4):
            self.assertEqual(self.look_over((goal[0], ()), goal)[0], number_by_search(goal))

    def test_told_lists_are_the_askers_own(self):
        for book, goal in pairs(100, 1)[::5]:
            number, script, floors = changes(book, goal)
            script.append(OUT)
            script.insert(0, ("in", "0" * book[0], "z"))
            del floors[0]
            floors.append((0, (), 99))
            self.look_over(book, goal)


class IsChangeFloorTest(unittest.TestCase):
    def look_over(self, book, goal, number, floors):
        right = is_change_floor_by_words(book, goal, number, floors)
        answer = told(self, is_change_floor, book, goal, number, floors)
        self.assertIs(answer, right, (book, goal, number, floors))
        return right

    def test_plain(self):
        words = ("00", "01", "11")
        book, goal = (2, (("0*", "a"), ("1*", "b"))), (2, (("0*", "a"), ("11", "c")))
        floors = [(0, words, 1), (1, ("11",), 1)]
        for number, right in ((2, False), (1, True), (0, True), (-3, True)):
            self.assertIs(is_change_floor(book, goal, number, floors), right)
        for left in ([], floors[:1], floors[1:]):
            self.assertIs(is_change_floor(book, goal, 1, left), False)
        self.assertIs(is_change_floor(book, goal, 0, []), False)
        self.assertIs(is_change_floor(book, goal, 0, [(0, words, 0)]), True)
        self.assertIs(is_change_floor(book, goal, -2, [(0, words, -2)]), True)
        self.assertIs(is_change_floor(book, goal, -1, [(0, words, -2)]), False)

    def test_plain_bent(self):
        words = ("00", "01", "11")
        number, script, floors = changes(BOOK, GOAL)
        self.assertEqual((number, wanted_by_words(GOAL)), (1, list(words)))
        for more in ((-1, words, 0), (3, words, 0), (0, ("10",), 0), (0, ("01", "00"), 0), (0, ("00", "00"), 0),
                     (0, ("",), 0), (0, ("000",), -1), (2, (), 1), (0, (), 1), (10 ** 20, (), -1), (0, ("0*",), 0)):
            self.assertIs(self.look_over(BOOK, GOAL, 1, floors + [more]), False, more)
            self.assertIs(self.look_over(BOOK, GOAL, 1, [more] + floors), False, more)
        for more in ((2, (), 0), (0, words, 0), (1, words, -1), (2, words, 1), (2, (), -1), floors[0], (0, (), 0)):
            self.assertIs(self.look_over(BOOK, GOAL, 1, floors + [more]), True, more)
            self.assertIs(self.look_over(BOOK, GOAL, 1, [more] + floors), True, more)

    def test_without_rows_and_wanted_words(self):
        book = (2, ())
        for number, floors, right in ((0, [(0, (), 0)], True), (-1, [(0, (), 0)], True), (1, [(0, (), 1)], False),
                                      (1, [(0, (), 0)], False), (0, [], False), (0, [(0, (), -1)], False),
                                      (0, [(0, (), 0), (1, (), 0)], False), (0, [(0, (), 0), (0, (), 1)], False)):
            self.assertIs(self.look_over(book, book, number, floors), right, (number, floors))

    def test_rows_that_can_only_go_out(self):
        book = (2, (("**", "a"),) * 4)
        floors = [(at, (), 4 - at) for at in range(5)]
        self.assertIs(self.look_over(book, (2, ()), 4, floors), True)
        self.assertIs(self.look_over(book, (2, ()), 4, floors[:4]), True)
        for at in range(4):
            self.assertIs(self.look_over(book, (2, ()), 4, floors[:at] + floors[at + 1:]), False)
        self.assertIs(self.look_over(book, (2, ()), 5, [(at, some, n + 1) for at, some, n in floors]), False)

    def test_tuples_of_another_making_show_nothing(self):
        number, script, floors = changes(BOOK, GOAL)
        for more in ((), (0,), (0, ()), (0, (), 0, 0), ((), 0, 0), (True, (), 0), (0, (), False), (None, (), 0),
                     ("0", (), 0), (0, [], 0), (0, "00", 0), (0, (["00"],), 0), (0, (None,), 0), [0, (), 0], None, 0):
            self.assertIs(told(self, is_change_floor, BOOK, GOAL, number, floors + [more]), False, more)

    def test_told_floors_and_numbers_about_the_least(self):
        for book, goal in pairs(101, 1):
            number, script, floors = changes(book, goal)
            for given in (number - 1, number, number + 1, number + 2, -1, 10 ** 20, -(10 ** 20)):
                self.look_over(book, goal, given, floors)

    def test_told_floors_bent(self):
        chance = random.Random(102)
        seen = set()
        for book, goal in pairs(103, 1):
            number, script, floors = changes(book, goal)
            # Fewer floors that still show it, so that most of them are needed.
            needed = [given for given in floors if given[2] > 0] or floors
            for bent in bent_floors(chance, book, goal, needed):
                given = chance.choice((number, number, number - 1, number + 1))
                seen.add((given - number, self.look_over(book, goal, given, bent)))
            for bent in bent_floors(chance, book, goal, floors)[:10]:
                self.look_over(book, goal, number, bent)
        self.assertEqual(seen, {(-1, True), (-1, False), (0, True), (0, False), (1, False)})

    def test_floors_of_lesser_numbers(self):
        for book, goal in pairs(104, 1)[::2]:
            number, script, floors = changes(book, goal)
            for less in range(-1, number + 1):
                self.look_over(book, goal, number - less, [(at, some, n - less) for at, some, n in floors])


class RefusalTest(unittest.TestCase):
    def ask_searches(self, error, book, goal):
        refused(self, error, changes, book, goal)
        for number in (0, 1, -1):
            for floors in ([], [(0, (), 0)], [(0, ("00",), 1)]):
                refused(self, error, is_change_floor, book, goal, number, floors)

    def ask_all(self, error, book, goal):
        self.ask_searches(error, book, goal)
        for script in ([], [KEEP], [OUT] * 3, [("in", "00", "a")] * 13):
            refused(self, error, cost, book, goal, script)

    def test_no_book_goes_first(self):
        for thing in no_books():
            for script in ([], [KEEP], [OUT, ("in", "00", "a")]):
                refused(self, NoBook, made_by, thing, script)
            for book in (BOOK, (6, (("******", "a"),) * 12)):
                self.ask_all(NoBook, thing, book)
                self.ask_all(NoBook, book, thing)

    def test_unlike_widths_go_ahead_of_too_many(self):
        for width in WIDTHS:
            for other in WIDTHS:
                if width != other:
                    self.ask_all(NoMatch, (width, ()), (other, ()))
                    self.ask_all(NoMatch, (width, (("*" * width, "a"),) * 12), (other, (("*" * other, "a"),) * 12))

    def test_too_many(self):
        for width in (1, 2, 3, 4):
            for many in (5, 6, 12):
                self.ask_searches(TooMany, (width, (("0" * width, "a"),) * many), (width, ()))
        for goal in seven_wanted():
            for rows in ((), (("0" * goal[0], "a"),)):
                self.ask_searches(TooMany, (goal[0], rows), goal)
        for width in (5, 6):
            self.ask_searches(TooMany, (width, ()), (width, ()))

    def test_just_four_rows_and_six_words(self):
        goal = (4, tuple((word, "a") for word in all_words(4)[:6]))
        book = (4, (("****", "b"),) * 4)
        number, script, floors = changes(book, goal)
        self.assertEqual(number, 6)
        self.assertIs(is_change_floor(book, goal, 6, floors), True)
        self.assertEqual(changes((4, goal[1][:4]), goal)[0], 1)

    def test_cost_has_no_bounds(self):
        for width in WIDTHS:
            book = (width, (("*" * width, "a"),) * 12)
            self.assertEqual(cost(book, book, [KEEP] * 12), 0)
            self.assertEqual(cost(book, book, [KEEP] + [OUT] * 11), 11)
            self.assertIsNone(cost(book, book, [OUT] * 12))


if __name__ == "__main__":
    unittest.main()
