"""Rows of a desk: all names, and rows with one word changed at any place; tables of columns."""

import itertools
import random
import unittest

from jumblepost.desk_lines import columns, parsed
from jumblepost.jumbles import Jumble
from tests.helpers import changed_texts, is_integer_word, odd_values, raised, wrong_word
from tests.test_jumbles import can_follow, is_whole
from tests.test_texts import WORDS, is_word, letter_of

PLAIN = ("open", "undo", "redo", "begin", "keep", "drop", "told", "span", "need", "forced")
NAMES = PLAIN + ("jumble", "change", "take", "looks", "alike", "next")
MOST = 10 ** 60 - 1


def is_number(word):
    return is_integer_word(word, 0, MOST)


def follows(ahead, word):
    """Whether a word can stand behind others that can, in a row of a desk."""
    if not ahead:
        return word in NAMES
    name, many = ahead[0], len(ahead)
    if name in PLAIN:
        return False
    if name in ("jumble", "change"):
        return can_follow(ahead[1:], word)
    if name == "take":
        return is_word(word)
    if name == "looks":
        return many == 1 and is_number(word)
    if name == "alike":
        return many < 3 and is_number(word)
    return is_word(word) and word != "?" if many == 1 else many == 2 and is_number(word)


def whole(parts):
    """Whether words that can stand are a whole row."""
    if parts[0] in ("jumble", "change"):
        return is_whole(parts[1:])
    return len(parts) >= {"take": 2, "looks": 2, "alike": 3, "next": 3}.get(parts[0], 1)


def things(text):
    """What a row tells behind its first word."""
    name, *words = text.split(" ")
    if name in ("jumble", "change"):
        return (name, Jumble.read(" ".join(words)))
    if name == "take":
        return (name, tuple(letter_of(word) for word in words))
    if name == "next":
        return (name, letter_of(words[0]), int(words[1]))
    return (name, *[int(word) for word in words])


ROWS = list(PLAIN) + [
    "jumble early 1 late 2", "jumble early 1 late 2 lost 3 again apart 2", "change early 0 late 20", "change early 20 late 20 apart 40", "take ?", "take 1", "take 1 2 0",
    "take 10|_ ? _|a", "looks 0", "looks 16", f"looks {MOST}", "alike 2 12", f"alike {MOST} 0", "next 3 100", "next _|1 7", f"next 10 {MOST}"]


class TestParsed(unittest.TestCase):

    def check(self, text):
        word = wrong_word(text, follows, whole)
        if word is None:
            told = parsed(text)
            self.assertEqual(told, things(text))
            self.assertIs(type(told), tuple)
        else:
            self.assertEqual(raised(parsed, text), ("BadAsk", 0, word), text[:200])
        return word is None

    def test_all_rows(self):
        for text in ROWS:
            self.assertTrue(self.check(text))
        self.assertEqual(parsed("take 1 ?"), ("take", (("1",), None)))
        self.assertEqual(parsed("open"), ("open",))
        self.assertEqual(parsed("alike 3 4"), ("alike", 3, 4))
        self.assertEqual(parsed(text="next _|a 7"), ("next", ("", "a"), 7))
        self.assertEqual(parsed("jumble early 1 late 2"), ("jumble", Jumble(1, 2)))

    def test_changed_words(self):
        fine = 0
        for text in ROWS:
            for changed in changed_texts(text, (*WORDS, *NAMES, str(MOST), str(MOST + 1), "1" * 4400, "early", "20", "21")):
                fine += self.check(changed)
        self.assertGreater(fine, 300)

    def test_names_alone_and_doubled(self):
        for name in NAMES:
            for text in (name, name + " ", " " + name, name + "\n", name.upper(), name[:-1], name + "s", name + " " + name, name + "  1", name + " 1", name + " 1 2", name + " 1 2 3"):
                self.check(text)
        for text in ("", " ", "\n", "post", "run", "ask", "record ?", "columns"):
            self.assertEqual(raised(parsed, text), ("BadAsk", 0, 0))

    def test_long_rows(self):
        self.check("take" + " 1" * 500)
        self.check("take" + " 1" * 500 + " x|")
        self.assertEqual(len(parsed("take" + " ?" * 300)[1]), 300)
        self.assertEqual(raised(parsed, "take 1 x|"), ("BadAsk", 0, 2))

    def test_values_that_are_none(self):
        for value in odd_values():
            if isinstance(value, str):
                self.check(value)
            else:
                self.assertEqual(raised(parsed, value), ("BadAsk", 0, 0))


def laid(rows, widths):
    """The text of a table, item by item."""
    lines = []
    for row in rows:
        parts = []
        for item, width in zip(row, widths):
            text = str(item)
            gap = " " * (abs(width) - len(text))
            parts.append(text + gap if width < 0 else gap + text)
        lines.append(" ".join(parts))
    return "\n".join(lines)


class TestColumns(unittest.TestCase):

    def test_all_widths(self):
        rand = random.Random(611)
        items = ["", "a", "two words", "x" * 59, "x" * 60, "x" * 61, 0, -1, 12, 10 ** 60, -10 ** 60, "10|_", "line\nbreak", " "]
        for width in range(-60, 61):
            for item in items:
                text = columns(((item,),), (width,))
                self.assertEqual(text, laid(((item,),), (width,)))
                self.assertEqual(len(text), max(len(str(item)), abs(width)))
        for _ in range(200):
            widths = tuple(rand.randint(-60, 60) for _ in range(rand.randint(0, 6)))
            rows = tuple(tuple(rand.choice(items) for _ in widths) for _ in range(rand.randint(0, 5)))
            self.assertEqual(columns(rows, widths), laid(rows, widths))

    def test_small_tables(self):
        self.assertEqual(columns((), ()), "")
        self.assertEqual(columns((), (3, 4)), "")
        self.assertEqual(columns(((),), ()), "")
        self.assertEqual(columns(((), ()), ()), "\n")
        self.assertEqual(columns(((1, "a"), (23, "bc")), (3, -4)), "  1 a   \n 23 bc  ")
        self.assertEqual(columns(widths=(0, 0), rows=((1, "a"),)), "1 a")
        self.assertEqual(columns(((0, "1", 1), (1, "2", "-")), (5, -30, 1)), "    0 1                              1\n    1 2                              -")

    def test_refused(self):
        for value in odd_values():
            if not isinstance(value, tuple):
                self.assertEqual(raised(columns, value, value), ("BadValue", "rows"))
                self.assertEqual(raised(columns, ((1,),), value), ("BadValue", "widths"))
                self.assertEqual(raised(columns, ((1,), (1, 2)), value), ("BadValue", "widths"))
                self.assertEqual(raised(columns, (value,), (1,)), ("BadValue", "rows"))
            if not isinstance(value, (str, int)) or isinstance(value, bool):
                self.assertEqual(raised(columns, ((1,), (value,)), (1,)), ("BadValue", "rows"))
                self.assertEqual(raised(columns, ((value,),), value), ("BadValue", "rows"))
            if type(value) is not int or not -60 <= value <= 60:
                self.assertEqual(raised(columns, ((1, 2),), (3, value)), ("BadValue", "widths"))
        for width in (-61, 61, True, "3", None):
            self.assertEqual(raised(columns, ((1,),), (width,)), ("BadValue", "widths"))
            self.assertEqual(raised(columns, (), (width,)), ("BadValue", "widths"))
            # A wrong number of items goes ahead of a wrong width.
            self.assertEqual(raised(columns, ((1, 2),), (width,)), ("BadValue", "rows"))
        for rows, widths in itertools.product((((1,), (1, 2)), ((),), ((1, 2, 3),), [(1, 2)], ([1, 2],), ((1, 2.0),), ((1, None),)), ((1, 2), (61, 1))):
            self.assertEqual(raised(columns, rows, widths), ("BadValue", "rows"))
        self.assertEqual(raised(columns, ((1, 2),), [1, 2]), ("BadValue", "widths"))


if __name__ == "__main__":
    unittest.main()
