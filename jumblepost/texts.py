"""Texts of looks, records and settings, and how they are read back."""

from jumblepost.common import MOST_RECORD, Words, are_signs, is_record
from jumblepost.errors import BadText, BadValue
from jumblepost.jumbles import Jumble
from jumblepost.lines import Line
from jumblepost.sheets import Sheet
from jumblepost.stamps import Stamp
from jumblepost.stations import Station
from jumblepost.twins import check_jumble

MOST_PANES = 9
MOST_SIGNS = 12
UNREAD = "?"


def is_seen(value):
    """Whether any value is a string of at most 12 signs."""
    return isinstance(value, str) and len(value) <= MOST_SIGNS and are_signs(value)


def is_letter(value):
    """Whether any value is None or a tuple of 1 to 9 strings of signs."""
    if value is None:
        return True
    if not isinstance(value, tuple) or not 1 <= len(value) <= MOST_PANES:
        return False
    return all([is_seen(seen) for seen in value])


def letter_word(letter):
    """The word of a letter."""
    if letter is None:
        return UNREAD
    return "|".join([seen if len(seen) > 0 else "_" for seen in letter])


def letters_of(word):
    """The tuple of the one letter that has this word, the empty one if none has it."""
    if word == UNREAD:
        return (None,)
    parts = [] if word is None else word.split("|")
    letter = tuple(["" if part == "_" else part for part in parts])
    # No string that a letter has is written as an empty part.
    return (letter,) if "" not in parts and is_letter(letter) else ()


def take_letter(words):
    """The letter whose word comes next among the words of a text."""
    word = words.coming()
    letters = letters_of(word)
    if len(letters) == 0:
        words.refuse()
    words.skip(word)
    return letters[0]


def look_text(look):
    """The word of a letter."""
    if not is_letter(look):
        raise BadValue("look")
    return letter_word(look)


def read_look(text):
    """The letter whose word a text is."""
    letters = letters_of(text) if isinstance(text, str) else ()
    if len(letters) == 0:
        raise BadText(0, 0)
    return letters[0]


def record_text(record):
    """The text of a record."""
    if not is_record(record) or not all([is_letter(item) for item in record]):
        raise BadValue("record")
    return " ".join(["record", *[letter_word(item) for item in record]])


def read_record(text):
    """The record whose text this is."""
    words = Words(text)
    words.skip("record")
    record = []
    while words.coming() is not None:
        if len(record) == MOST_RECORD:
            words.refuse()
        record.append(take_letter(words))
    return tuple(record)


def read_part(kind, row):
    """What a row of a setting tells, by its first word."""
    if kind == "sheet":
        return Sheet.read(row)
    if kind == "station":
        return Station.read(row)
    text = row.partition(" ")[2]
    return Stamp.read(text) if kind == "stamp" else Jumble.read(text)


class Rows:
    """The rows of the text of a setting, taken one by one."""

    def __init__(self, text):
        if not isinstance(text, str):
            raise BadText(0, 0)
        self.rows = text.split("\n")
        self.at = 0

    def comes(self, kind):
        """Whether there is a next row, and this is its first word."""
        return self.at < len(self.rows) and self.rows[self.at].split(" ")[0] == kind

    def part(self, kind):
        """What the next row tells, which must begin with this word."""
        if not self.comes(kind):
            raise BadText(self.at, 0)
        # The texts of sheets and stations begin with this word themselves.
        ahead = 1 if kind in ("stamp", "jumble") else 0
        try:
            told = read_part(kind, self.rows[self.at])
        except BadText as error:
            raise BadText(self.at, ahead + error.word) from error
        self.at += 1
        return told

    def finish(self):
        """Tells the next row if there is one too many."""
        if self.at < len(self.rows):
            raise BadText(self.at, 0)


class Setting:
    """A line and a jumble."""

    def __init__(self, line, jumble):
        check_jumble(line, jumble)
        self.line = line
        self.jumble = jumble

    def __eq__(self, other):
        return isinstance(other, Setting) and self.line == other.line and self.jumble == other.jumble

    def __str__(self):
        return "\n".join([
            str(self.line.sheet), f"stamp {self.line.stamp}", *[str(station) for station in self.line.stations],
            f"jumble {self.jumble}",
        ])

    @classmethod
    def read(cls, text):
        """The setting whose text this is."""
        rows = Rows(text)
        sheet = rows.part("sheet")
        stamp = rows.part("stamp")
        stations = [rows.part("station")]
        while len(stations) < Line.MOST_STATIONS and rows.comes("station"):
            stations.append(rows.part("station"))
        jumble = rows.part("jumble")
        rows.finish()
        return cls(Line(sheet, stamp, *stations), jumble)
