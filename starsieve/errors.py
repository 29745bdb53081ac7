"""The refusals of the program, one class for each."""


class SieveError(ValueError):
    """Stands above every refusal of the program."""


class Turned(SieveError):
    """A word, the least one, would get another deed."""

    def __init__(self, word):
        SieveError.__init__(self, f"the deed of {word} would be turned")
        self.word = word


class NoText(SieveError):
    """A text is no book from the row of this number on."""

    def __init__(self, number):
        SieveError.__init__(self, f"row {number} of the text is not as it should be")
        self.number = number


class NoBook(SieveError):
    """What is handed in is no book."""


class NoMatch(SieveError):
    """Two books have unlike widths."""


class NoWord(SieveError):
    """What is handed in is no word of the width."""


class NoRow(SieveError):
    """There is no row, or no place, of this number."""


class NoForm(SieveError):
    """What is handed in is no form of the width, or no deed."""


class NoOrder(SieveError):
    """What is handed in is no order of the book's rows."""


class NoJoin(SieveError):
    """Two rows have numbers, deeds or forms that can't be joined."""


class TooMany(SieveError):
    """Rows, places or wanted words are more than can be looked through."""


class Full(SieveError):
    """A book would have more than twelve rows."""


class Nothing(SieveError):
    """No change stands that could be undone."""


class NoLine(SieveError):
    """A row told to the desk is none that it knows."""
