"""Scripts that keep, take out and put in rows, and the least that makes a book do what another one does."""

from starsieve.alike import parting_word
from starsieve.books import MOST_ROWS, need_book, need_two_books
from starsieve.errors import Full, NoRow, TooMany
from starsieve.fewest import highest, is_some, parted_by, stands, steps, wanted_deeds, wanted_forms
from starsieve.forms import is_place, is_whole

MOST_ROWS_CHANGED = 4
KEEP = ("keep",)
OUT = ("out",)


def made_by(book, script):
    """The book of the rows that the script keeps and puts in, in order."""
    need_book(book)
    width, rows = book
    if len([thing for thing in script if thing[0] != "in"]) != len(rows):
        raise NoRow(f"the script has to keep or take out each of {len(rows)} rows")
    made = []
    at = 0
    for thing in script:
        if thing[0] == "in":
            made.append((thing[1], thing[2]))
        else:
            if thing[0] == "keep":
                made.append(rows[at])
            at += 1
    if len(made) > MOST_ROWS:
        raise Full(f"a book has at most {MOST_ROWS} rows")
    return (width, tuple(made))


def cost(book, goal, script):
    """How many rows the script takes out and puts in, or None where it doesn't make the book do what the goal does."""
    need_two_books(book, goal)
    try:
        made = made_by(book, script)
    except (NoRow, Full):
        return None
    if parting_word(made, goal) is not None:
        return None
    return len([thing for thing in script if thing[0] != "keep"])


def goal_deeds(book, goal):
    """The deeds of the goal's wanted words; refuses what is no book, doesn't match or is too many."""
    need_two_books(book, goal)
    if len(book[1]) > MOST_ROWS_CHANGED:
        raise TooMany(f"a book of at most {MOST_ROWS_CHANGED} rows is changed")
    return wanted_deeds(goal)


def moves_by_row(rows, deeds, forms, at, some):
    """The moves that keep the row or take it out, as tuples (of the script, cost, next row, those left)."""
    form, given = rows[at]
    found = [(OUT, 1, at + 1, some)]
    fitted, left = parted_by(form, some)
    if form in forms and all([deeds[word] == given for word in fitted]):
        found.append((KEEP, 0, at + 1, left))
    return found


def moves_from(rows, deeds, forms, at, some):
    """All moves from a row and some wanted words, as tuples (of the script, cost, next row, those left)."""
    found = [(("in", form, given), 1, at, left) for form, given, left in steps(deeds, forms, some)]
    if at < len(rows):
        return found + moves_by_row(rows, deeds, forms, at, some)
    return found


def all_moves(rows, deeds, forms):
    """The moves from row 0 and all wanted words, and from all that moves lead to, by the row and the words."""
    found = {}
    waiting = [(0, tuple(deeds))]
    while waiting:
        here = waiting.pop()
        if here not in found:
            found[here] = moves_from(rows, deeds, forms, here[0], here[1])
            waiting.extend([(at, left) for thing, price, at, left in found[here]])
    return found


def nearness(here):
    """Sorts what moves lead to ahead of what they start from: a move goes to a further row, or leaves fewer words."""
    return (-here[0], len(here[1]))


def least_costs(found):
    """For each row and some wanted words the least cost of moves that lead to the end."""
    least = {}
    for here in sorted(found, key=nearness):
        least[here] = min([least[(at, left)] + price for thing, price, at, left in found[here]], default=0)
    return least


def least_script(found, least, start):
    """A script of least cost by moves from the start to the end."""
    script = []
    here = start
    while found[here]:
        best = [move for move in found[here] if least[move[2:]] + move[1] == least[here]]
        script.append(best[0][0])
        here = best[0][2:]
    return script


def changes(book, goal):
    """(the least cost of a right script, such a script, floors that show that none costs less)."""
    deeds = goal_deeds(book, goal)
    found = all_moves(book[1], deeds, wanted_forms(goal[0], deeds))
    least = least_costs(found)
    start = (0, tuple(deeds))
    floors = [(at, some, number) for (at, some), number in sorted(least.items())]
    return (least[start], least_script(found, least, start), floors)


def is_change_entry(rows, deeds, thing):
    """Whether thing is a tuple of a row's number, or the number of rows, some wanted words and a whole number."""
    if not isinstance(thing, tuple) or len(thing) != 3:
        return False
    return is_place(len(rows) + 1, thing[0]) and is_some(deeds, thing[1]) and is_whole(thing[2])


def is_change_shown(rows, deeds, forms, greatest, here):
    """Whether the greatest number of a row and some words follows from those of what moves lead to."""
    number = greatest[here]
    if number <= 0:
        return True
    found = moves_from(rows, deeds, forms, here[0], here[1])
    # Only the end has no moves.
    if not found:
        return False
    return all([number <= price or stands(greatest, (at, left), number - price) for thing, price, at, left in found])


def is_change_floor(book, goal, number, floors):
    """Whether the floors show that no right script costs less than the number."""
    deeds = goal_deeds(book, goal)
    rows = book[1]
    if not all([is_change_entry(rows, deeds, thing) for thing in floors]):
        return False
    greatest = highest([((at, some), given) for at, some, given in floors])
    forms = wanted_forms(goal[0], deeds)
    # What holds of the greatest number holds of the lesser ones.
    if not all([is_change_shown(rows, deeds, forms, greatest, here) for here in greatest]):
        return False
    return stands(greatest, (0, tuple(deeds)), number)
