"""Words, forms, books, trees and things of all kinds, told without the program's own help."""

import copy
import functools
import itertools
import random

WIDTHS = (1, 2, 3, 4, 5, 6)
DEEDS = ("a", "z", "go", "stay", "abcdefgh")


def all_words(width):
    return ["".join(signs) for signs in itertools.product("01", repeat=width)]


def all_forms(width):
    return ["".join(signs) for signs in itertools.product("01*", repeat=width)]


@functools.lru_cache(maxsize=None)
def words_of(form):
    """The words of a form, built place by place and not by asking each word."""
    choices = ["01" if sign == "*" else sign for sign in form]
    return frozenset("".join(signs) for signs in itertools.product(*choices))


def things():
    """Things that are neither a width, nor a word, a form, a deed or a book, made anew."""
    return [
        True, False, None, 0, 7, -1, -6, 10 ** 30, -(10 ** 30),
        "", " ", "\n", "\t", "a b", "2", "0 ", "0\n", "0\t1", "**2", "-1", "~",
        (), (1,), (1, 2, 3), ("0",), ("0", "1"), ("*",), (None,), (True, ()), ("1", ()), (0, ()), (7, ()),
        [], [1], ["0"], ["0", "1"], ["*"], ["*", "*"], [None], [1, ()], [1, []], (1, []), (1, None), (1, "0"),
        ((((1,),),),), [[[["0"]]]], ([([True],)],), (1, ([[None]],)), (1, (("0", ["a"]),)), (1, (("0", ("a",)),)),
    ]


# Books


def random_form(chance, width, signs):
    return "".join(chance.choice(signs) for at in range(width))


def random_book(chance, width, many, signs="01***", deeds=("a", "b")):
    """Many stars and few deeds, so that rows are hidden or needless now and then."""
    rows = [(random_form(chance, width, signs), chance.choice(deeds)) for at in range(many)]
    return (width, tuple(rows))


def some_books():
    """Books of all widths and numbers of rows, the same in each run."""
    chance = random.Random(11)
    books = []
    for width in WIDTHS:
        for many in range(13):
            books.append(random_book(chance, width, many, "01*", DEEDS))
            books.append(random_book(chance, width, many))
    return books


def small_books():
    """All books of width 1 with at most two rows of two deeds, and all of width 2 with one row."""
    rows = [(form, deed) for form in all_forms(1) for deed in ("a", "b")]
    books = [(1, given) for many in range(3) for given in itertools.product(rows, repeat=many)]
    return books + [(2, ((form, "a"),)) for form in all_forms(2)]


def bent_widths():
    rows = (("0*", "a"),)
    return [(width, rows) for width in (0, 1, 3, 7, -2, True, False, None, "2", "", (2,), [2], 10 ** 20)] + [
        (True, (("0", "a"),)), (True, ()), (False, ()), ("1", ()), (0, ()), (7, ()), (7, (("0" * 7, "a"),)),
        (0, (("", "a"),)), (None, ()),
    ]


def bent_rows():
    row = ("0*", "a")
    parts = [
        list(row), ("0*",), ("0*", "a", "b"), ("0*", "a", ""), (), [], None, True, 0, "0*", "0a", ("a", "0*"), (row,),
        [row], ((row,),),
    ]
    rows = [(row,) * 13, (row,) * 14, [row], [], [row, row], None, "", "0*", 0, True, row]
    return [(2, given) for given in rows] + [(2, (row, part)) for part in parts] + [(2, (part, row)) for part in parts]


def bent_forms():
    forms = ["", "0", "0*1", "02", "0 ", "a*", "0\n", "0*\n", " 0*", "?1", None, 0, 1, True, ["0", "*"], ("0", "*"),
             ["0*"], ("0*",)]
    return [(2, (("11", "b"), (form, "a"))) for form in forms]


def bent_deeds():
    deeds = ["", "abcdefghi", "abcdefghij", "A", "aB", "Ab", "a b", " a", "a ", "a\n", "\na", "a\t", "a1", "1", "-",
             "*", "a_b", "`", "{", "@", "[", None, 1, True, ["a"], ("a",), [], ()]
    return [(2, (("11", "b"), ("0*", given))) for given in deeds]


def bent_wholes():
    row = ("0*", "a")
    return [[2, (row,)], [2, ()], (2,), (2, (row,), ()), (2, (row,), None), ((row,), 2), ((2, (row,)),), [(2, (row,))],
            (2, row), ("0*", "a"), (2, ((row,),))]


def no_words(width):
    """Things that are no word of the width."""
    most = "0" * (width - 1)
    return [most, most + "00", "*" * width, most + "*", "2" + most, most + "\n", most + "0\n", ["0"] * width,
            ("0",) * width, width] + things()


def no_books():
    return bent_widths() + bent_rows() + bent_forms() + bent_deeds() + bent_wholes() + things()


def first_row(book, word):
    """The first row that fits, told by the words of each form."""
    numbers = [number for number, row in enumerate(book[1]) if word in words_of(row[0])]
    return numbers[0] if numbers else None


def deed_by_words(book, word):
    number = first_row(book, word)
    return None if number is None else book[1][number][1]


def least_parting(one, other):
    """The least word with unlike deeds, or None."""
    for word in all_words(one[0]):
        if deed_by_words(one, word) != deed_by_words(other, word):
            return word
    return None


@functools.lru_cache(maxsize=200000)
def deeds_by_words(book):
    """The deeds of all words, in order."""
    return tuple(deed_by_words(book, word) for word in all_words(book[0]))


def do_the_same(one, other):
    return deeds_by_words(one) == deeds_by_words(other)


def cut(book, number):
    """The book without a row."""
    return (book[0], tuple(row for at, row in enumerate(book[1]) if at != number))


def split_rows(book):
    """The book with one row split in two at a star, for each row and star."""
    width, rows = book
    return [
        (width, rows[:k] + ((form[:at] + first + form[at + 1:], deed), (form[:at] + last + form[at + 1:], deed))
         + rows[k + 1:])
        for k, (form, deed) in enumerate(rows) for at in range(width) if form[at] == "*" for first, last in ("01", "10")
    ]


def hidden_put_in(book):
    """The book with a row put in behind a row that takes all its words, for each row and each place behind it."""
    width, rows = book
    return [
        (width, rows[:at] + ((form.replace("*", sign, 1), "hid"),) + rows[at:])
        for k, (form, deed) in enumerate(rows) for at in range(k + 1, len(rows) + 1) for sign in "01*"
    ]


def neighbours_exchanged(book):
    """The book with two neighbours exchanged that have one deed or no word in common."""
    width, rows = book
    return [
        (width, rows[:k] + (rows[k + 1], rows[k]) + rows[k + 2:]) for k in range(len(rows) - 1)
        if rows[k][1] == rows[k + 1][1] or not words_of(rows[k][0]) & words_of(rows[k + 1][0])
    ]


def books_that_do_the_same(book):
    """Books made otherwise, of at most twelve rows, that give each word the book's deed."""
    made = split_rows(book) + hidden_put_in(book) + neighbours_exchanged(book)
    return [book] + [other for other in made if len(other[1]) <= 12]


def arranged(book, order):
    """The book with its rows in the order."""
    return (book[0], tuple(book[1][number] for number in order))


def turned_about(things, place):
    """The tuple with the things at the place and behind it exchanged."""
    turned = list(things)
    turned[place], turned[place + 1] = turned[place + 1], turned[place]
    return tuple(turned)


def rich_books(seed):
    """Books of all widths, beside them such of which many rows are hidden, needless or like one another."""
    chance = random.Random(seed)
    grown = [chance.choice(books_that_do_the_same(book)) for book in some_books()]
    plain = [random_book(chance, width, many, "01****", ("a",)) for width in WIDTHS for many in (2, 5, 8, 12)]
    narrow = [random_book(chance, width, many, "01") for width in WIDTHS for many in (3, 7, 12)]
    return some_books() + small_books() + grown + plain + narrow


def wanted_by_words(book):
    return [word for word, given in zip(all_words(book[0]), deeds_by_words(book)) if given is not None]


def few_wanted_books(seed, each):
    """Books of width 4 at most with at most six wanted words, so many for each width, number and choice of deeds."""
    chance = random.Random(seed)
    books = []
    for width in (1, 2, 3, 4):
        for many in range(min(6, 2 ** width) + 1):
            for deeds in (("a",), ("a", "b"), ("a", "b", "c")):
                books += [few_wanted_book(chance, width, many, deeds) for at in range(each)]
    return books


def few_wanted_book(chance, width, many, deeds):
    """A book with just so many wanted words, rows of several words ahead of such of one."""
    words = chance.sample(all_words(width), many)
    inner = [form for form in all_forms(width) if words_of(form) <= set(words)]
    rows = [(chance.choice(inner), chance.choice(deeds)) for at in range(chance.randrange(6)) if inner]
    return (width, tuple(rows + [(word, chance.choice(deeds)) for word in words]))


@functools.lru_cache(maxsize=None)
def steps_by_words(goal, some):
    """All steps from some wanted words of a goal, as tuples (form, deed, those left)."""
    deeds = dict(zip(all_words(goal[0]), deeds_by_words(goal)))
    found = []
    for form in all_forms(goal[0]):
        taken = words_of(form) & set(some)
        if taken and all(deeds[word] for word in words_of(form)) and len({deeds[word] for word in taken}) == 1:
            found.append((form, deeds[min(taken)], tuple(word for word in some if word not in taken)))
    return found


@functools.lru_cache(maxsize=None)
def number_by_search(book):
    """Rows are put on one by one, all at once, until some of them leave no wanted word."""
    lefts, number = {tuple(wanted_by_words(book))}, 0
    while () not in lefts:
        lefts = {left for some in lefts for form, deed, left in steps_by_words(book, some)}
        number += 1
    return number


def seven_wanted():
    """Books with just seven wanted words, and more."""
    return [
        (3, (("000", "a"), ("***", "b"))), (3, (("0**", "a"), ("*00", "b"), ("*10", "c"), ("101", "d"))),
        (3, (("0**", "a"), ("1*0", "b"), ("111", "a"))), (4, (("0***", "a"),)), (4, (("****", "a"),)),
        (4, tuple((word, "a") for word in all_words(4)[:7])), (4, tuple((word, "a") for word in all_words(4)[:12])),
    ]


@functools.lru_cache(maxsize=None)
def forms_by_words(width):
    return {words_of(form): form for form in all_forms(width)}


def joined_by_words(book, one, other, at):
    """The book with two rows joined, whatever it does, or None where deeds or forms forbid it."""
    rows = list(book[1])
    form = forms_by_words(book[0]).get(words_of(rows[one][0]) | words_of(rows[other][0]))
    if one >= other or form is None or rows[one][1] != rows[other][1]:
        return None
    rows[at] = (form, rows[at][1])
    del rows[one + other - at]
    return (book[0], tuple(rows))


@functools.lru_cache(maxsize=None)
def joins_by_words(book):
    many = range(len(book[1]))
    found = []
    for one, other, at in itertools.product(many, repeat=3):
        if one < other and at in (one, other):
            made = joined_by_words(book, one, other, at)
            if made is not None and do_the_same(book, made):
                found.append((one, other, at))
    return sorted(found)


def lean_by_words(book):
    for number in reversed(range(len(book[1]))):
        if do_the_same(book, cut(book, number)):
            book = cut(book, number)
    return book


def press_by_words(book):
    while True:
        made = book
        while joins_by_words(made):
            made = joined_by_words(made, *joins_by_words(made)[0])
        made = lean_by_words(made)
        if made == book:
            return book
        book = made


def bent_lists(things, more):
    """The list with one thing left out, twice, turned about with the next, or one more."""
    bent = [[], things[::-1], things + things, things[1:] + things[:1]]
    for at, thing in enumerate(things):
        bent += [things[:at] + things[at + 1:], things[:at] + [thing] + things[at:]]
        if at + 1 < len(things):
            bent.append(list(turned_about(things, at)))
    bent += [things + [thing] for thing in more] + [[thing] + things for thing in more] + [[thing] for thing in more]
    return bent


def bent_words(some, goal):
    """Tuples of words about some: one left out, one more, turned about, twice, without a deed, of another width."""
    wanted = wanted_by_words(goal)
    others = [word for word in all_words(goal[0]) if word not in wanted][:2] + ["", "0", "0" * 5, "*" * goal[0], "a"]
    bent = [some[:at] + some[at + 1:] for at in range(len(some))]
    bent += [some[:at] + (word,) + some[at:] for at, word in enumerate(some)]
    bent += [tuple(sorted(some + (word,))) for word in wanted + others]
    bent += [turned_about(some, at) for at in range(len(some) - 1)]
    bent += [some[::-1], some + some, (), tuple(wanted), tuple(all_words(goal[0]))]
    return bent


def no_rows(many):
    """Things that are no number of one of so many rows."""
    others = [thing for thing in things() if type(thing) is not int]
    return [-1, -many - 1, many, many + 1, 10 ** 20, "0", "1", "00", (0,), [0], [[0]]] + others


# Trees, looked over by the words of their boxes: a box is a set of words here, not a form


def halves(box, at):
    """Both halves of a box, or None where it has no star at the place."""
    parts = [frozenset(word for word in box if 0 <= at < len(word) and word[at] == sign) for sign in "01"]
    return parts if all(parts) else None


def is_right(tree, box, is_leaf):
    """Whether the splits are right and is_leaf(leaf, box) holds at each leaf."""
    if tree[0] != "split":
        return is_leaf(tree, box)
    parts = halves(box, tree[1])
    return parts is not None and is_right(tree[2], parts[0], is_leaf) and is_right(tree[3], parts[1], is_leaf)


def is_made(tree, name, many):
    """Whether a tree is made as told: tuples of plain kinds, leaves of the name and so many numbers or None."""
    if type(tree) is not tuple:
        return False
    if tree[0] == "split":
        return len(tree) == 4 and type(tree[1]) is int and is_made(tree[2], name, many) and is_made(tree[3], name, many)
    return tree[0] == name and len(tree) == many + 1 and all(k is None or type(k) is int for k in tree[1:])


def row_is_met(rows, number, box):
    """What ("met", number) says of a box."""
    if number is None:
        return not any(box & words_of(row[0]) for row in rows)
    if not 0 <= number < len(rows):
        return False
    return box <= words_of(rows[number][0]) and not any(box & words_of(row[0]) for row in rows[:number])


def split_anyhow(chance, box, leaf_of, further):
    """A tree that splits at any stars until leaf_of(box) tells a leaf, and now and then further."""
    leaf = leaf_of(box)
    places = [at for at in range(len(min(box))) if halves(box, at)]
    if leaf is not None and (not places or chance.random() >= further):
        return leaf
    at = chance.choice(places)
    zero, one = halves(box, at)
    return ("split", at, split_anyhow(chance, zero, leaf_of, further), split_anyhow(chance, one, leaf_of, further))


def random_tree(chance, width, deep, name, many, numbers):
    """Any tree with any numbers, right by luck alone."""
    if deep == 0 or chance.random() < 0.3:
        return (name,) + tuple(chance.choice(numbers) for at in range(many))
    at = chance.choice(range(-1, width + 1))
    zero, one = [random_tree(chance, width, deep - 1, name, many, numbers) for half in range(2)]
    return ("split", at, zero, one)


def deep_trees(width, leaf):
    """Trees of up to nine splits within one another, at all places in turn and again, on either side."""
    trees = []
    for many in range(10):
        for step in (1, -1):
            tree = other = leaf
            for k in range(many):
                tree, other = ("split", step * k % width, tree, leaf), ("split", step * k % width, leaf, other)
            trees += [tree, other]
    return trees


def bent_leaves(leaf, many_rows):
    """The leaf with one number turned, or all; many_rows tells for each number how many rows there are."""
    bent = [leaf[:1] + (None,) * len(many_rows), leaf[:1] + (0,) * len(many_rows)]
    for at, many in enumerate(many_rows, start=1):
        numbers = list(range(-2, many + 2)) + [None, 10 ** 20, -(10 ** 20)]
        bent += [leaf[:at] + (number,) + leaf[at + 1:] for number in numbers]
    return bent


def bent_trees(tree, width, many_rows):
    """The tree with one thing in it turned, which may leave it right: a leaf, a place, halves, a half, a split more."""
    if tree[0] != "split":
        return bent_leaves(tree, many_rows) + [("split", at, tree, tree) for at in range(-1, width + 1)]
    name, at, zero, one = tree
    places = list(range(-width - 1, width + 2)) + [10 ** 20, -(10 ** 20)]
    bent = [(name, at, one, zero), zero, one, (name, at, zero, zero), (name, at, one, one), (name, at, tree, tree)]
    bent += [(name, place, zero, one) for place in places]
    bent += [(name, at, half, one) for half in bent_trees(zero, width, many_rows)]
    bent += [(name, at, zero, half) for half in bent_trees(one, width, many_rows)]
    return bent


def no_trees(name, many):
    """Things that are no tree with leaves of the name and so many numbers, and splits that bear them."""
    wrong = [("leaf",) + (0,) * many, (name,) + (0,) * (many + 1), (name,) + (0,) * (many - 1), [name] + [0] * many]
    wrong += [("split", 0, (name,) + (0,) * many), ["split", 0, (name,) + (0,) * many, (name,) + (0,) * many]]
    wrong += things()
    return wrong + [("split", 0, (name,) + (0,) * many, thing) for thing in wrong]


# What holds of all that is told


def told(case, function, *given):
    """What the function tells, and that what was handed in is as it was."""
    before = copy.deepcopy(given)
    answer = function(*given)
    case.assertEqual(repr(given), repr(before), function.__name__)
    return answer


def refused(case, error, function, *given):
    """That the function refuses with just this class, and that what was handed in is as it was."""
    before = copy.deepcopy(given)
    with case.assertRaises(error, msg=f"{function.__name__}{given!r}") as caught:
        function(*given)
    case.assertIs(type(caught.exception), error)
    case.assertEqual(repr(given), repr(before))
