"""Texts of looks, records and settings, read back; with words changed, left out, doubled and exchanged."""

import itertools
import random
import re
import unittest

from jumblepost.jumbles import Jumble
from jumblepost.lines import Line
from jumblepost.looks import looks
from jumblepost.rows import Row
from jumblepost.runs import Run
from jumblepost.sheets import Sheet
from jumblepost.stamps import Stamp
from jumblepost.stations import Station
from jumblepost.texts import Setting, look_text, read_look, read_record, record_text
from jumblepost.wheels import Wheel
from tests import small_lines
from tests.helpers import changed_texts, odd_values, raised, wrong_word
from tests.test_jumbles import small_jumbles
from tests.test_least import BROAD, CROWDED
from tests.test_spans import readable_lines

PART = "(_|[0-9a-z]{1,12})"
WORD = re.compile(rf"\?|{PART}(\|{PART}){{0,8}}")
LETTERS = [
    None, ("",), ("0",), ("", ""), ("10", ""), ("", "a"), ("a" * 12,), ("z9", "0", "", "b"), ("",) * 9, ("a" * 12,) * 9, ("0", "1", "2", "3", "4", "5", "6", "7", "8")]
# What no letter is: too many or too few strings, too many signs, other characters, other kinds.
NO_LETTERS = [
    (), ("",) * 10, ("a" * 13,), ("A",), ("a", None), ("a", 1), (None,), ["a"], ("_",), ("?",), ("|",), ("a b",), ("\n",), (" ",), ("a\n",), (True,), "a", "?", 0, ((),), (("a",),),
    ("\u00e9",), ("\u0661",), ("-",), ("a|b",)]
WORDS = ["?", "_", "0", "10|_", "_|a", "|", "a|", "|a", "a||b", "__", "_a", "a_", "??", "?|a", "a|?", "A", "a b", "", " ", "\n", "a\n", "\na", "a" * 12, "a" * 13, "a|" * 8 + "b", "a|" * 9 + "b", "_|" * 8 + "_", "_|" * 9 + "_", "9" * 4400, "a-b", ".", "%", "\u00e9", "\u0661"]


def is_word(text):
    return WORD.fullmatch(text) is not None and "\n" not in text


def letter_of(word):
    return None if word == "?" else tuple("" if part == "_" else part for part in word.split("|"))


class TestLooks(unittest.TestCase):

    def test_letters(self):
        for letter in LETTERS:
            text = look_text(letter)
            self.assertTrue(is_word(text))
            self.assertEqual(read_look(text), letter)
        self.assertEqual([look_text(("10", "")), look_text(None), read_look("_|a"), look_text(look=("",))], ["10|_", "?", ("", "a"), "_"])
        self.assertEqual(read_look(text="1|_|2"), ("1", "", "2"))

    def test_all_looks_of_lines(self):
        for line in small_lines.small_lines(10, 601):
            for number in range(min(9, line.stamp.cycle)):
                for look in looks(line, number):
                    self.assertEqual(read_look(look_text(look)), look)

    def test_values_that_are_no_letters(self):
        for value in odd_values() + NO_LETTERS:
            if value not in LETTERS:
                self.assertEqual(raised(look_text, value), ("BadValue", "look"))
                self.assertEqual(raised(record_text, (("a",), value)), ("BadValue", "record"))

    def test_words(self):
        changed = [text for letter in LETTERS for text in changed_texts(look_text(letter).replace("|", " "))]
        for text in WORDS + changed + [word.replace(" ", "|") for word in changed]:
            if is_word(text):
                self.assertEqual(read_look(text), letter_of(text))
                self.assertEqual(look_text(read_look(text)), text)
            else:
                self.assertEqual(raised(read_look, text), ("BadText", 0, 0), text)
        for value in odd_values():
            if not isinstance(value, str) or not is_word(value):
                self.assertEqual(raised(read_look, value), ("BadText", 0, 0))


def record_word(text):
    """The index of the word of a record's text that cannot stand, None if it can be read."""
    follows = lambda ahead, word: len(ahead) < 201 and is_word(word) if ahead else word == "record"
    return wrong_word(text, follows, lambda parts: True)


class TestRecords(unittest.TestCase):

    def test_records(self):
        rand = random.Random(602)
        for many in (0, 1, 2, 5, 30, 199, 200):
            record = tuple(rand.choice(LETTERS) for _ in range(many))
            text = record_text(record)
            self.assertEqual(text, " ".join(["record"] + [look_text(item) for item in record]))
            self.assertEqual(read_record(text), record)
        self.assertEqual(record_text(record=(("10", ""), None)), "record 10|_ ?")
        self.assertEqual(read_record(text="record"), ())

    def test_values_that_are_no_records(self):
        for value in odd_values() + [(None,) * 201, [None], ("a",), (("a",), 0), {"a": 1}]:
            if value != () and value != (None,):
                self.assertEqual(raised(record_text, value), ("BadValue", "record"))
            if value != "record":
                self.assertEqual(raised(read_record, value)[:2], ("BadText", 0))
        self.assertEqual(record_text((None,) * 200).count("?"), 200)

    def check(self, text):
        word = record_word(text)
        if word is None:
            self.assertEqual(record_text(read_record(text)), text)
        else:
            self.assertEqual(raised(read_record, text), ("BadText", 0, word), text)

    def test_changed_words(self):
        for record in ((), (None,), (("10", ""), None, ("a",)), (("",), ("a", "b"))):
            for text in changed_texts(record_text(record), WORDS + ["record", "Record"]):
                self.check(text)
        for text in ("", " ", "record ", " record", "record  ?", "record\n?", "record\n", "\n", "records", "record ? record"):
            self.check(text)

    def test_bounds(self):
        for many in (199, 200, 201, 202, 400):
            self.check("record" + " ?" * many)
            self.check("record" + " ?" * many + " ")
            self.check("record" + " ?" * many + " A")
        self.assertEqual(raised(read_record, "record" + " ?" * 300), ("BadText", 0, 201))
        for value in odd_values():
            if not isinstance(value, str):
                self.assertEqual(raised(read_record, value), ("BadText", 0, 0))


KINDS = ("sheet", "stamp", "station", "jumble")
READS = {"sheet": Sheet.read, "stamp": Stamp.read, "station": Station.read, "jumble": Jumble.read}


def setting_error(text):
    """The error that is due for the text of a setting, None if it can be read."""
    rows = text.split("\n")
    at = 0
    parts = []
    for kind in ("sheet", "stamp", "station", "station", "station", "jumble"):
        first = rows[at].split(" ")[0] if at < len(rows) else None
        if first != kind:
            if kind == "station" and parts[-1][0] == "station":
                continue
            return "BadText", at, 0
        behind = " ".join(rows[at].split(" ")[1:])
        error = raised(READS[kind], rows[at] if kind in ("sheet", "station") else behind)
        if error is not None:
            if error[0] != "BadText":
                return error
            return "BadText", at, error[2] + (kind in ("stamp", "jumble"))
        parts.append((kind, READS[kind](rows[at] if kind in ("sheet", "station") else behind)))
        at += 1
    if at < len(rows):
        return "BadText", at, 0
    sheet, stamp, *stations, _ = [part for _, part in parts]
    return raised(Line, sheet, stamp, *stations)


def settings(many, seed):
    rand = random.Random(seed)
    jumbles = list(small_jumbles(3, 3)) + [Jumble(20, 20, 20, True, 40)]
    lines = small_lines.small_lines(many, seed) + readable_lines(3, seed) + [BROAD, CROWDED]
    return [Setting(line, rand.choice(jumbles)) for line in lines]


class TestSettings(unittest.TestCase):

    def check(self, text):
        error = setting_error(text)
        self.assertEqual(raised(Setting.read, text), error, text)
        if error is None:
            self.assertEqual(str(Setting.read(text)), text)
        return error

    def test_read_back(self):
        for setting in settings(20, 603):
            text = str(setting)
            line, jumble = setting.line, setting.jumble
            rows = [str(line.sheet), "stamp " + str(line.stamp), *[str(station) for station in line.stations], "jumble " + str(jumble)]
            self.assertEqual(text.split("\n"), rows)
            told = Setting.read(text)
            self.assertEqual((told, str(told)), (setting, text))
            self.assertEqual((told.line, told.jumble, told.line.views), (line, jumble, line.views))

    def test_one_word_changed(self):
        errors = set()
        for setting in settings(2, 604)[:4]:
            rows = str(setting).split("\n")
            for at, row in enumerate(rows):
                for changed in changed_texts(row, ("sheet", "stamp", "station", "jumble", "/", ";", "early", "2")):
                    error = self.check("\n".join(rows[:at] + [changed] + rows[at + 1:]))
                    errors.add(error and error[0])
        self.assertTrue({None, "BadText", "BadSheet", "BadStation", "BadStamp", "BadRow"} <= errors, errors)

    def test_two_words_changed(self):
        """The first row that is wrong is told, also by what its class raises."""
        rand = random.Random(605)
        errors = set()
        for setting in settings(4, 606):
            text = str(setting)
            for _ in range(150):
                rows = [row.split(" ") for row in text.split("\n")]
                for _ in range(2):
                    row = rand.choice(rows)
                    at = rand.randrange(len(row))
                    row[at] = rand.choice(("0", "1", "2", "3", "9", "60", "-1", "x", "", "00", "1" * 4400, "apart", row[rand.randrange(len(row))]))
                error = self.check("\n".join(" ".join(row) for row in rows))
                errors.add(error and error[0])
        self.assertTrue({None, "BadText", "BadSheet", "BadStation", "TooMany"} <= errors, errors)

    def test_rows_changed(self):
        for setting in settings(4, 607):
            rows = str(setting).split("\n")
            extra = rows + ["", "sheet", "stamp", "station", "jumble", "stamp ", "jumble ", "sheets", "x", " " + rows[0], "jumble early 0 late 0", "station 1 panes 1 0 1 rows 0 plain"]
            for at in range(len(rows) + 1):
                self.check("\n".join(rows[:at]))
                self.check("\n".join(rows[:at] + rows[at + 1:]))
                self.check("\n".join(rows[:at] + rows[at:at + 2][::-1] + rows[at + 2:]))
                for row in extra:
                    self.check("\n".join(rows[:at] + [row] + rows[at:]))
                    self.check("\n".join(rows[:at] + [row] + rows[at + 1:]))
            for other in itertools.permutations(rows[:4]):
                self.check("\n".join(other))

    def test_rows_too_many(self):
        rows = str(Setting(BROAD, Jumble())).split("\n")
        for many in range(6):
            self.check("\n".join(rows[:2] + rows[2:3] * many + rows[3:]))
        self.assertEqual(raised(Setting.read, "\n".join(rows[:2] + rows[2:3] * 4 + rows[3:])), ("BadText", 5, 0))
        self.assertEqual(raised(Setting.read, "\n".join(rows + ["x"])), ("BadText", 4, 0))
        # What the text of the jumble raises goes ahead of a row too many, and this ahead of what Line raises.
        self.assertEqual(raised(Setting.read, "\n".join(rows[:3] + ["jumble early 1 late 2 apart 4", "x"])), ("BadText", 3, 6))
        self.assertEqual(raised(Setting.read, "\n".join([rows[0], "stamp 0 1 / 0 0", *rows[2:], "x"])), ("BadText", 4, 0))
        self.assertEqual(raised(Setting.read, "\n".join([rows[0], "stamp 0 1 / 0 0", *rows[2:]])), ("BadLine", "cells"))

    def test_the_error_comes_from_that_of_the_part(self):
        text = str(Setting(BROAD, Jumble()))
        with self.assertRaises(ValueError) as caught:
            Setting.read(text.replace("/ 0 0", "/ 0 x", 1))
        self.assertEqual(vars(caught.exception), {"at": 1, "word": 6})
        self.assertEqual(vars(caught.exception.__cause__), {"at": 0, "word": 5})

    def test_values_that_are_none(self):
        for value in odd_values():
            if not isinstance(value, str):
                self.assertEqual(raised(Setting.read, value), ("BadText", 0, 0))
            else:
                self.check(value)
            if not isinstance(value, Line):
                self.assertEqual(raised(Setting, value, value), ("BadValue", "line"))
            if type(value) is not Jumble:
                self.assertEqual(raised(Setting, BROAD, value), ("BadValue", "jumble"))
            self.assertNotEqual(Setting(BROAD, Jumble()), value)
        told = Setting(jumble=Jumble(1, 2), line=BROAD)
        self.assertEqual((told.line, told.jumble), (BROAD, Jumble(1, 2)))
        self.assertNotEqual(told, Setting(BROAD, Jumble(2, 2)))
        self.assertNotEqual(told, Setting(CROWDED, Jumble(1, 2)))
        self.assertEqual(Setting.read(text=str(told)), told)


THINGS = [
    Row(3, 0, -7), Row(11, 10, 10 ** 6 - 1), BROAD.sheet, CROWDED.sheet, CROWDED.stations[0], CROWDED.stations[2], Station(60, ((0, 60),), [], True), Wheel.digits(4, 2, 3),
    Wheel(("ab", "01")), Stamp(Wheel.digits(3), Wheel.digits(4, 1, 2)), CROWDED.stamp, Jumble(1, 2, 3, True, 2), Jumble(20, 20), Run(5, (7, 6), (9, 12)), Run(10 ** 60 - 1), Setting(BROAD, Jumble(1, 2))]


class TestAllTexts(unittest.TestCase):
    """Whatever class a text is of, words that are nearly integers cannot stand, and nothing else is raised."""

    def words(self, text):
        """The starts and ends of the words of a text."""
        return [match.span() for match in re.finditer("[^ \n]+", text)]

    def place(self, text, begin):
        """The index of the row and of the word that begins here, as it is told."""
        ahead = text[:begin].split("\n")
        return len(ahead) - 1, len(ahead[-1].split(" ")) - 1

    def test_integers(self):
        for thing in THINGS:
            text = str(thing)
            read = type(thing).read
            self.assertEqual(str(read(text)), text)
            for begin, end in self.words(text):
                word = text[begin:end]
                row = text[:begin].split("\n")[-1]
                faces = type(thing) in (Wheel, Stamp) or row.startswith("stamp")
                if re.fullmatch("-?[0-9]+", word) is None or faces and not self.is_slip(row):
                    continue
                for other in ("0" + word, "+" + word, "-0", "--" + word, word + ".0", word + "\t", " " + word, word + " ", "1" * 4400, "-" + "9" * 4400, "0x1", word + "_0", "\u0661", "1e1", ""):
                    changed = text[:begin] + other + text[end:]
                    error = raised(read, changed)
                    self.assertEqual(error[0], "BadText", changed[:200])
                    if other.strip() == other and other:
                        self.assertEqual(error[1:], self.place(text, begin), changed[:200])

    def is_slip(self, ahead):
        """Whether the word behind these is the lag or the lead of a wheel."""
        return "/" in ahead.split(" ")[:-1][-2:]

    def test_words_exchanged_and_doubled(self):
        for thing in THINGS:
            read = type(thing).read
            for text in changed_texts(str(thing).replace("\n", " \n "), ("1" * 4400, "-")):
                text = text.replace(" \n ", "\n")
                error = raised(read, text)
                if error is None:
                    self.assertEqual(str(read(text)), text)
                else:
                    self.assertIn(error[0], ("BadText", "BadRow", "BadStation", "BadStamp", "BadSheet", "BadRun", "BadLine", "TooMany", "NoPlacing", "BadValue"))


if __name__ == "__main__":
    unittest.main()
