"""The fewest rows that do the same as a book, and floors that show that no fewer do."""

from starsieve.books import deed, need_book
from starsieve.errors import TooMany
from starsieve.forms import all_forms, fits, is_whole, words_of
from starsieve.laid import stars

WIDEST_SEARCHED = 4
MOST_WANTED = 6


def wanted_deeds(book):
    """The deeds of the words that have one, by the words, rising."""
    need_book(book)
    if book[0] > WIDEST_SEARCHED:
        raise TooMany(f"at most width {WIDEST_SEARCHED} is looked through")
    given = {word: deed(book, word) for word in words_of(stars(book[0]))}
    deeds = {word: given[word] for word in given if given[word] is not None}
    if len(deeds) > MOST_WANTED:
        raise TooMany(f"at most {MOST_WANTED} words with a deed are looked through")
    return deeds


def wanted_forms(width, deeds):
    """The forms of the width that fit no word without a deed."""
    return [form for form in all_forms(width) if all([word in deeds for word in words_of(form)])]


def wanted(book):
    """The words that have a deed, rising."""
    return list(wanted_deeds(book))


def parted_by(form, some):
    """The words of some that the form fits, and a tuple of those left."""
    fitted = [word for word in some if fits(form, word)]
    return (fitted, tuple([word for word in some if word not in fitted]))


def steps(deeds, forms, some):
    """All steps from some of the wanted words, as tuples (form, deed, those left)."""
    found = []
    for form in forms:
        fitted, left = parted_by(form, some)
        if fitted and all([deeds[word] == deeds[fitted[0]] for word in fitted]):
            found.append((form, deeds[fitted[0]], left))
    return found


def all_steps(deeds, forms):
    """The steps from all wanted words, and from all that steps leave of them, by the words."""
    found = {}
    waiting = [tuple(deeds)]
    while waiting:
        some = waiting.pop()
        if some not in found:
            found[some] = steps(deeds, forms, some)
            waiting.extend([left for form, given, left in found[some]])
    return found


def fewest_steps(found):
    """For each of some wanted words the fewest steps that lead to none."""
    many = {}
    # A step leaves fewer words, so what it leaves is told ahead of what it starts from.
    for some in sorted(found, key=len):
        many[some] = min([many[left] + 1 for form, given, left in found[some]], default=0)
    return many


def fewest_rows(found, many, some):
    """Rows that take the fewest steps from some wanted words to none."""
    rows = []
    left = some
    while left:
        best = [step for step in found[left] if many[step[2]] < many[left]]
        form, given, left = best[0]
        rows.append((form, given))
    return tuple(rows)


def fewest(book):
    """(the fewest rows that do the same, a book of so many that does, floors that show that no fewer do)."""
    deeds = wanted_deeds(book)
    found = all_steps(deeds, wanted_forms(book[0], deeds))
    many = fewest_steps(found)
    start = tuple(deeds)
    return (many[start], (book[0], fewest_rows(found, many, start)), sorted(many.items()))


def is_some(deeds, thing):
    """Whether thing is a rising tuple of wanted words."""
    if not isinstance(thing, tuple) or not all([isinstance(word, str) and word in deeds for word in thing]):
        return False
    return list(thing) == sorted(set(thing))


def is_entry(deeds, thing):
    """Whether thing is a tuple of some wanted words and a whole number."""
    if not isinstance(thing, tuple) or len(thing) != 2:
        return False
    return is_some(deeds, thing[0]) and is_whole(thing[1])


def highest(floors):
    """The greatest number that stands in the floors with each thing, by the things."""
    greatest = {}
    for thing, number in floors:
        greatest[thing] = max(number, greatest.get(thing, number))
    return greatest


def stands(greatest, thing, number):
    """Whether the thing stands with the number or a greater one."""
    return thing in greatest and greatest[thing] >= number


def is_shown(deeds, forms, greatest, some):
    """Whether the greatest number of some wanted words follows from those of what steps leave."""
    number = greatest[some]
    if number <= 0:
        return True
    if not some:
        return False
    return number == 1 or all([stands(greatest, left, number - 1) for form, given, left in steps(deeds, forms, some)])


def is_floor(book, number, floors):
    """Whether the floors show that no book that does the same has fewer rows than the number."""
    deeds = wanted_deeds(book)
    if not all([is_entry(deeds, thing) for thing in floors]):
        return False
    greatest = highest(floors)
    forms = wanted_forms(book[0], deeds)
    # What holds of the greatest number of some words holds of their lesser ones.
    if not all([is_shown(deeds, forms, greatest, some) for some in greatest]):
        return False
    return stands(greatest, tuple(deeds), number)
