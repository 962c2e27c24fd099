"""What several files need: the kinds of values, and the words of texts that are read back."""

from jumblepost.errors import BadText

DIGITS = "0123456789"
SIGNS = "0123456789abcdefghijklmnopqrstuvwxyz"
MOST_NUMBER = 10 ** 60 - 1
MOST_FIRST = 10 ** 59 - 1
MOST_DIGITS = 61
MOST_RECORD = 200


def is_integer(value):
    """Whether a value is an int that is not a bool."""
    return isinstance(value, int) and not isinstance(value, bool)


def is_between(value, least, most):
    """Whether a value is an integer within these bounds."""
    return is_integer(value) and least <= value <= most


def is_number(value):
    """Whether a value is an integer from 0 on with at most 60 digits."""
    return is_between(value, 0, MOST_NUMBER)


def is_first(value):
    """Whether a value is a number with at most 59 digits, so that those near it are numbers, too."""
    return is_between(value, 0, MOST_FIRST)


def is_series(value):
    """Whether a value is a list or a tuple."""
    return isinstance(value, (list, tuple))


def are_integers(values):
    """Whether all items of a list or a tuple are integers."""
    return all([is_integer(value) for value in values])


def are_signs(text):
    """Whether all characters of a string are signs."""
    return all([sign in SIGNS for sign in text])


def is_record(value):
    """Whether a value is a tuple with no more items than a record has."""
    return isinstance(value, tuple) and len(value) <= MOST_RECORD


def is_view(value):
    """Whether a value is a tuple of tuples of integers from 0 on."""
    if not isinstance(value, tuple) or not all([isinstance(cells, tuple) for cells in value]):
        return False
    return all([is_integer(cell) and cell >= 0 for cells in value for cell in cells])


def integer_of(word):
    """The integer that `str` writes as this word, None if it writes none so."""
    body = word.removeprefix("-")
    # int refuses endless rows of digits, and no text has an integer as long as this.
    if not 1 <= len(body) <= MOST_DIGITS or not all([sign in DIGITS for sign in body]):
        return None
    value = int(word)
    return value if str(value) == word else None


class Words:
    """The words of a text, taken one by one; the first that cannot stand is told."""

    def __init__(self, text):
        if not isinstance(text, str):
            raise BadText(0, 0)
        self.words = text.split(" ")
        self.at = 0

    def coming(self):
        """The word that comes next, None behind the last one."""
        return self.words[self.at] if self.at < len(self.words) else None

    def refuse(self):
        """Tells that the next word cannot stand, or is missing."""
        raise BadText(0, self.at)

    def skip(self, word):
        """Goes behind the next word, which must be this one."""
        if not self.comes(word):
            self.refuse()

    def comes(self, word):
        """Whether the next word is this one; if so, goes behind it."""
        if self.coming() != word:
            return False
        self.at += 1
        return True

    def integer(self, least, most, taken=()):
        """The next word as an integer within these bounds that is not taken yet."""
        word = self.coming()
        value = None if word is None else integer_of(word)
        if not is_between(value, least, most) or value in taken:
            self.refuse()
        self.at += 1
        return value

    def finish(self):
        """Tells the next word if there is one too many."""
        if self.coming() is not None:
            self.refuse()


def few_of(things, most):
    """All tuples of one to so many of some things, each in their order, by length and then ascending."""
    found = []
    rows = [(at,) for at in range(len(things))]
    for _ in range(most):
        found.extend(rows)
        rows = [(*row, at) for row in rows for at in range(row[-1] + 1, len(things))]
    return [tuple([things[at] for at in row]) for row in found]
