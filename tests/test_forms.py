"""Points 2, 4 and 5: widths, words, forms, and what is told of two forms."""

import copy
import unittest

from samples import WIDTHS, all_forms, all_words, things, words_of
from starsieve import forms
from starsieve.forms import both, fits, how_many, is_form, is_width, is_word, joined, least, lies_in, rest


def pairs(width):
    """All pairs of forms of the small widths; of width 6 every 11th, which still meets each form on either side."""
    forms = all_forms(width)
    every = [(form, other) for form in forms for other in forms]
    return every if width < 6 else every[::11]


def rest_by_document(form, other):
    """The rest, written down as point 5 words it."""
    if not words_of(form) & words_of(other):
        return [form]
    places = [at for at in range(len(form)) if form[at] == "*" and other[at] != "*"]
    told = []
    for many, at in enumerate(places):
        signs = list(form)
        for ahead in places[:many]:
            signs[ahead] = other[ahead]
        signs[at] = {"0": "1", "1": "0"}[other[at]]
        told.append("".join(signs))
    return told


class WidthTest(unittest.TestCase):
    def test_widths(self):
        for width in WIDTHS:
            self.assertIs(is_width(width), True, width)

    def test_no_widths(self):
        for thing in things() + ["1", "6", (1,), [6], ("1",), [[1]]]:
            self.assertIs(is_width(thing), False, thing)


class WordAndFormTest(unittest.TestCase):
    def test_right_ones(self):
        for width in WIDTHS:
            for word in all_words(width):
                self.assertIs(is_word(width, word), True, word)
            for form in all_forms(width):
                self.assertIs(is_form(width, form), True, form)

    def test_a_form_with_a_star_is_no_word(self):
        for width in WIDTHS:
            for form in all_forms(width):
                self.assertIs(is_word(width, form), "*" not in form, form)

    def test_one_sign_more_or_fewer(self):
        for width in WIDTHS:
            for form in all_forms(width)[::5]:
                for other in (form + "0", form + "1", form + "*", form[1:], form[:-1]):
                    self.assertIs(is_form(width, other), False, other)
                    self.assertIs(is_word(width, other), False, other)

    def test_words_of_each_other_width(self):
        for width in WIDTHS:
            for other in WIDTHS:
                self.assertIs(is_word(width, "0" * other), width == other)
                self.assertIs(is_form(width, "*" * other), width == other)

    def test_another_sign(self):
        for width in WIDTHS:
            for at in range(width):
                for sign in "2aoOlI ?-.+~\n\t":
                    text = "0" * at + sign + "1" * (width - at - 1)
                    self.assertIs(is_word(width, text), False, text)
                    self.assertIs(is_form(width, text), False, text)

    def test_other_kinds(self):
        for width in WIDTHS:
            signs = ["0"] * width
            others = [signs, tuple(signs), ["0" * width], ("0" * width,), width, int("1" * width), [0] * width]
            for thing in things() + others:
                self.assertIs(is_word(width, thing), False, thing)
                self.assertIs(is_form(width, thing), False, thing)

    def test_what_is_handed_in_stays(self):
        for thing in things():
            before = copy.deepcopy(thing)
            is_width(thing)
            is_word(2, thing)
            is_form(2, thing)
            self.assertEqual(repr(thing), repr(before))


class FitsTest(unittest.TestCase):
    def test_plain(self):
        self.assertIs(fits("0*1", "001"), True)
        self.assertIs(fits("0*1", "011"), True)
        self.assertIs(fits("0*1", "010"), False)
        self.assertIs(fits("0*1", "101"), False)

    def test_no_and_only_stars(self):
        for width in WIDTHS:
            for word in all_words(width):
                self.assertIs(fits("*" * width, word), True)
                for other in all_words(width):
                    self.assertIs(fits(word, other), word == other)

    def test_all_forms_against_all_words(self):
        for width in WIDTHS:
            words = all_words(width)
            for form in all_forms(width):
                within = words_of(form)
                for word in words:
                    self.assertIs(fits(form, word), word in within, (form, word))

    def test_one_sign_turned(self):
        for form in all_forms(5):
            word = least(form)
            for at in range(5):
                turned = word[:at] + ("1" if word[at] == "0" else "0") + word[at + 1:]
                self.assertIs(fits(form, turned), form[at] == "*", (form, turned))


class TwoFormsTest(unittest.TestCase):
    def test_plain_both(self):
        self.assertEqual(both("0*1*", "**11"), "0*11")
        self.assertIsNone(both("0*", "1*"))
        self.assertIsNone(both("*0*", "*1*"))

    def test_plain_lies_in(self):
        self.assertIs(lies_in("01", "0*"), True)
        self.assertIs(lies_in("0*", "01"), False)
        self.assertIs(lies_in("0*", "0*"), True)
        self.assertIs(lies_in("0*", "*1"), False)

    def test_plain_joined(self):
        self.assertEqual(joined("01", "0*"), "0*")
        self.assertEqual(joined("**", "1*"), "**")
        self.assertEqual(joined("0*1", "0*1"), "0*1")
        self.assertEqual(joined("0*1", "0*0"), "0**")
        self.assertIsNone(joined("00", "11"))
        self.assertIsNone(joined("0*", "*1"))
        self.assertIsNone(joined("0*", "11"))

    def test_plain_rest(self):
        self.assertEqual(rest("***", "01*"), ["1**", "00*"])
        self.assertEqual(rest("***", "*10"), ["*0*", "*11"])
        self.assertEqual(rest("0**", "*1*"), ["00*"])
        self.assertEqual(rest("*0*", "01*"), ["*0*"])
        self.assertEqual(rest("01", "01"), [])
        self.assertEqual(rest("01", "0*"), [])

    def test_against_all_words(self):
        for width in WIDTHS:
            words = {form: words_of(form) for form in all_forms(width)}
            by_words = {within: form for form, within in words.items()}
            for form, other in pairs(width):
                one, two = words[form], words[other]
                self.assertIs(lies_in(form, other), one <= two, (form, other))
                self.assertEqual(both(form, other), by_words.get(one & two), (form, other))
                self.assertEqual(joined(form, other), by_words.get(one | two), (form, other))

    def test_rest_against_all_words(self):
        for width in WIDTHS:
            words = {form: words_of(form) for form in all_forms(width)}
            for form, other in pairs(width):
                told = rest(form, other)
                self.assertIs(type(told), list)
                fitted = [word for part in told for word in words[part]]
                self.assertEqual(len(fitted), len(set(fitted)), (form, other))
                self.assertEqual(set(fitted), words[form] - words[other], (form, other))
                self.assertEqual(told, rest_by_document(form, other), (form, other))

    def test_a_told_list_is_the_askers_own(self):
        for form, other in (("***", "01*"), ("0*", "1*"), ("01", "0*")):
            told = rest(form, other)
            before = list(told)
            told.append("spoilt")
            told[0] = "spoilt"
            self.assertEqual(rest(form, other), before)


class OneFormTest(unittest.TestCase):
    def test_plain(self):
        self.assertEqual(how_many("0*1*"), 4)
        self.assertEqual(least("1*0*"), "1000")

    def test_against_all_words(self):
        for width in WIDTHS:
            for form in all_forms(width):
                within = [word for word in all_words(width) if word in words_of(form)]
                self.assertIs(type(how_many(form)), int)
                self.assertEqual(how_many(form), len(within))
                self.assertEqual(least(form), min(within))

    def test_all_words_and_forms(self):
        for width in WIDTHS:
            self.assertEqual(sorted(forms.all_forms(width)), sorted(all_forms(width)))
            for form in all_forms(width):
                self.assertEqual(forms.words_of(form), sorted(words_of(form)))


if __name__ == "__main__":
    unittest.main()
