"""What a desk is asked, row by row, and how it lines up its answers."""

from jumblepost.common import MOST_NUMBER, Words, is_between, is_integer
from jumblepost.errors import BadAsk, BadText, BadValue
from jumblepost.jumbles import Jumble, read_jumble
from jumblepost.texts import take_letter

WIDEST = 60
PLAIN = ("open", "undo", "redo", "begin", "keep", "drop", "told", "span", "need", "forced")


def take_look(words):
    """The look whose word comes next; it is not that of an unread letter."""
    if words.coming() == "?":
        words.refuse()
    return take_letter(words)


def take_number(words):
    """The number that comes next."""
    return words.integer(0, MOST_NUMBER)


def take_letters(words):
    """A tuple of all letters that come, one at least."""
    letters = [take_letter(words)]
    while words.coming() is not None:
        letters.append(take_letter(words))
    return tuple(letters)


def things_behind(word, words):
    """The things that follow the first word of a row."""
    if word in ("jumble", "change"):
        early, late, lost, again, apart = read_jumble(words)
        return (Jumble(early, late, lost, again, apart),)
    if word == "take":
        return (take_letters(words),)
    if word == "looks":
        return (take_number(words),)
    if word == "alike":
        return take_number(words), take_number(words)
    return take_look(words), take_number(words)


def read_ask(text):
    """The first word of a row and the things that follow; raises BadText where it is none."""
    words = Words(text)
    for word in PLAIN:
        if words.comes(word):
            words.finish()
            return (word,)
    for word in ("jumble", "change", "take", "looks", "alike", "next"):
        if words.comes(word):
            things = things_behind(word, words)
            words.finish()
            return (word, *things)
    words.refuse()


def parsed(text):
    """The first word of a row that a desk can be asked, and the things that follow it."""
    try:
        told = read_ask(text)
    except BadText as error:
        raise BadAsk(0, error.word)
    return told


def is_row(value, many):
    """Whether any value is a tuple of strings and integers, so many if this is told."""
    if not isinstance(value, tuple) or (many is not None and len(value) != many):
        return False
    return all([isinstance(item, str) or is_integer(item) for item in value])


def filled_up(item, width):
    """An item as a text with at least so many columns, at the left end of them if the width is below 0."""
    text = str(item)
    return text.ljust(-width) if width < 0 else text.rjust(width)


def columns(rows, widths):
    """The text of a table, its items at the ends of columns that are at least so wide."""
    many = len(widths) if isinstance(widths, tuple) else None
    if not isinstance(rows, tuple) or not all([is_row(row, many) for row in rows]):
        raise BadValue("rows")
    if many is None or not all([is_between(width, -WIDEST, WIDEST) for width in widths]):
        raise BadValue("widths")
    return "\n".join([
        " ".join([filled_up(item, width) for item, width in zip(row, widths)]) for row in rows
    ])
