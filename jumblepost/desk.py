"""Desks: they answer rows of text."""

from jumblepost.common import is_first
from jumblepost.desk_lines import columns, parsed
from jumblepost.errors import BadAsk, BadText, BadValue
from jumblepost.forced import decide
from jumblepost.looks import common_looks, looks, next_shown
from jumblepost.post import Post
from jumblepost.spans import span
from jumblepost.texts import letter_word
from jumblepost.twins import Twins, check_jumble

WIDTHS = (5, -30, 1)


def set_jumble(desk, jumble):
    """Sets the jumble of a desk."""
    desk.jumble = jumble
    return "set"


def open_post(desk):
    """Opens a new post."""
    desk.post = Post(desk.line, desk.jumble, desk.first)
    return "open"


def take_items(desk, letters):
    """Takes letters, and tells the places and the numbers that are known by them."""
    pairs = desk.post.take_all(*letters)
    return " ".join([f"{place}:{number}" for place, number in pairs]) if len(pairs) > 0 else "none"


def change_rule(desk, jumble):
    """Changes the rule of the post."""
    desk.post.change(jumble)
    return "changed"


def deed_row(deed):
    """A deed as a row that asks for it."""
    kind, what = deed
    if kind == "change":
        return f"change {what}"
    return " ".join([kind, *[letter_word(letter) for letter in what]])


def undo_deed(desk):
    """Undoes a deed, and tells it."""
    return deed_row(desk.post.undo())


def redo_deed(desk):
    """Does a deed again, and tells it."""
    return deed_row(desk.post.redo())


def begin_trial(desk):
    """Begins a trial, and tells how many are open."""
    desk.post.begin()
    return str(desk.post.open_trials)


def keep_trial(desk):
    """Keeps a trial, and tells how many are open."""
    desk.post.keep()
    return str(desk.post.open_trials)


def drop_trial(desk):
    """Drops a trial, and tells how many are open."""
    desk.post.drop()
    return str(desk.post.open_trials)


def told_rows(desk):
    """A table of the record of the post, with the numbers that are told."""
    post = desk.post
    if len(post.record) == 0:
        return "none"
    return columns(tuple([
        (place, letter_word(letter), "-" if number is None else number)
        for place, (letter, number) in enumerate(zip(post.record, post.by_place))
    ]), WIDTHS)


def span_word(desk):
    """The span of the line."""
    return str(span(desk.line))


def need_word(desk):
    """The need of the jumble."""
    return "never" if desk.jumble.need is None else str(desk.jumble.need)


def forced_words(desk):
    """Whether the line and the jumble are forced, or where two runs part, and by which numbers."""
    paper = decide(desk.line, desk.jumble)
    if not isinstance(paper, Twins):
        return "forced"
    return f"twins {paper.place} {paper.one.letter(paper.place)} {paper.other.letter(paper.place)}"


def look_words(desk, number):
    """The looks of a number."""
    return " ".join([letter_word(look) for look in looks(desk.line, number)])


def alike_word(desk, one, other):
    """The least look that two numbers can show."""
    common = common_looks(desk.line, one, other)
    return letter_word(common[0]) if len(common) > 0 else "unlike"


def next_word(desk, look, number):
    """The next number that can show a look."""
    shown = next_shown(desk.line, look, number)
    return "none" if shown is None else str(shown)


ANSWERS = {
    "jumble": set_jumble, "open": open_post, "take": take_items, "change": change_rule, "undo": undo_deed,
    "redo": redo_deed, "begin": begin_trial, "keep": keep_trial, "drop": drop_trial, "told": told_rows,
    "span": span_word, "need": need_word, "forced": forced_words, "looks": look_words, "alike": alike_word,
    "next": next_word,
}
OF_POST = ("take", "change", "undo", "redo", "begin", "keep", "drop", "told")


class Desk:
    """A line, a jumble and a first number, and a post as soon as it is opened."""

    def __init__(self, line, jumble, first=0):
        check_jumble(line, jumble)
        if not is_first(first):
            raise BadValue("first")
        self.line = line
        self.jumble = jumble
        self.first = first
        self.post = None

    def ask(self, text):
        """The answer to a row."""
        word, *things = parsed(text)
        if word in OF_POST and self.post is None:
            raise BadAsk(0, 0)
        answer = ANSWERS[word]
        return answer(self, *things)

    def ask_row(self, at, text):
        """The answer to the row with this index."""
        try:
            told = self.ask(text)
        except BadAsk as error:
            raise BadAsk(at, error.word)
        return told

    def run(self, text):
        """Yields the answers to the rows of a text, each when it is requested."""
        if not isinstance(text, str):
            raise BadText(0, 0)
        for at, row in enumerate(text.split("\n")):
            yield self.ask_row(at, row)
