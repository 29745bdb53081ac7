"""Words of noughts and ones, and forms in which a star stands for either."""

WIDEST = 6


def is_whole(thing):
    """Whether thing, which may be anything, is a whole number."""
    return isinstance(thing, int) and not isinstance(thing, bool)


def is_width(thing):
    """Whether thing, which may be anything, is a width."""
    return is_whole(thing) and 1 <= thing <= WIDEST


def is_place(many, thing):
    """Whether thing, which may be anything, is the number of one of so many things."""
    return is_whole(thing) and 0 <= thing < many


def is_text_of(signs, width, thing):
    """Whether thing is a text of so many signs, all of them among signs."""
    if not isinstance(thing, str) or len(thing) != width:
        return False
    return all([sign in signs for sign in thing])


def is_word(width, thing):
    """Whether thing, which may be anything, is a word of the width."""
    return is_text_of("01", width, thing)


def is_form(width, thing):
    """Whether thing, which may be anything, is a form of the width."""
    return is_text_of("01*", width, thing)


def fits(form, word):
    """Whether the form fits the word."""
    if len(form) != len(word):
        return False
    return all([sign == "*" or sign == given for sign, given in zip(form, word)])


def lies_in(form, other):
    """Whether the other form fits all words that the form fits."""
    # A star of the form equals no 0 and no 1, so only a star of the other takes it in.
    return fits(other, form)


def with_sign(form, at, sign):
    """The form, but with the sign at the place."""
    return form[:at] + sign + form[at + 1:]


def both(form, other):
    """The form that fits just the words that both fit, or None."""
    shared = ""
    for one, two in zip(form, other):
        if one == "*":
            shared += two
        elif two == "*" or two == one:
            shared += one
        else:
            return None
    return shared


def joined(form, other):
    """The form that fits just the words that one of both or both fit, or None."""
    if lies_in(form, other):
        return other
    if lies_in(other, form):
        return form
    unlike = [at for at, sign in enumerate(form) if sign != other[at]]
    # A star at the only unlike place would have let one form lie in the other.
    if len(unlike) == 1:
        return with_sign(form, unlike[0], "*")
    return None


def rest(form, other):
    """Forms, no two fitting the same word, for what the form fits and the other doesn't."""
    if both(form, other) is None:
        return [form]
    parts = []
    box = form
    for at, sign in enumerate(other):
        if form[at] == "*" and sign != "*":
            parts.append(with_sign(box, at, "1" if sign == "0" else "0"))
            box = with_sign(box, at, sign)
    return parts


def words_of(form):
    """All words that the form fits, rising."""
    words = [""]
    for sign in form:
        signs = "01" if sign == "*" else sign
        words = [word + given for word in words for given in signs]
    return words


def all_forms(width):
    """All forms of the width."""
    forms = [""]
    for at in range(width):
        forms = [form + sign for form in forms for sign in "01*"]
    return forms


def how_many(form):
    """How many words the form fits."""
    many = 1
    for sign in form:
        if sign == "*":
            many = many * 2
    return many


def least(form):
    """The least word that the form fits."""
    return form.replace("*", "0")
