"""Point 2 and the interface: the refusals and how they stand to one another."""

import unittest

from starsieve import errors
from starsieve.errors import (
    Full, NoBook, NoForm, NoJoin, NoLine, NoMatch, NoOrder, NoRow, NoText, NoWord, Nothing, SieveError, TooMany, Turned,
)

MADE_OF_TEXT = (NoBook, NoMatch, NoWord, NoRow, NoForm, NoOrder, NoJoin, TooMany, Full, Nothing, NoLine)


class ErrorsTest(unittest.TestCase):
    def test_all_stand_right_under_sieve_error(self):
        self.assertEqual(SieveError.__bases__, (ValueError,))
        for error in MADE_OF_TEXT + (Turned, NoText):
            self.assertEqual(error.__bases__, (SieveError,), error)

    def test_names(self):
        for error in MADE_OF_TEXT + (Turned, NoText, SieveError):
            self.assertIs(getattr(errors, error.__name__), error)

    def test_made_of_a_text(self):
        for error in MADE_OF_TEXT:
            with self.assertRaises(error) as caught:
                raise error("why")
            self.assertEqual(str(caught.exception), "why")

    def test_turned_keeps_its_word(self):
        for word in ("0", "010110"):
            with self.assertRaises(Turned) as caught:
                raise Turned(word)
            self.assertEqual(caught.exception.word, word)

    def test_no_text_keeps_its_number(self):
        for number in (0, 1, 13):
            with self.assertRaises(NoText) as caught:
                raise NoText(number)
            self.assertEqual(caught.exception.number, number)

    def test_fields_are_each_objects_own(self):
        first, second = Turned("0"), Turned("1")
        self.assertEqual((first.word, second.word), ("0", "1"))


if __name__ == "__main__":
    unittest.main()
