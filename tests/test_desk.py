"""Desks: answers beside the functions; an error changes nothing; rows as one text; two runs of one desk."""

import random
import unittest

from jumblepost.desk import Desk
from jumblepost.desk_lines import columns
from jumblepost.errors import PostError
from jumblepost.forced import decide
from jumblepost.jumbles import Jumble
from jumblepost.lines import Line
from jumblepost.looks import common_looks, looks, next_shown
from jumblepost.post import Post
from jumblepost.spans import span
from jumblepost.texts import look_text, read_look
from jumblepost.twins import Twins
from tests import small_lines, wide_lines
from tests.helpers import changed_texts, odd_values, raised
from tests.test_desk_lines import NAMES, follows, wrong_word, whole
from tests.test_post import RULES
from tests.test_residues import LAGGING
from tests.test_twins import SEEN

DIGITS = SEEN[10]
OF_POST = ("take", "change", "undo", "redo", "begin", "keep", "drop", "told")


def all_of(desk):
    """All that a desk has come to."""
    post = desk.post
    told = None if post is None else (post.deeds, post.undone, post.open_trials, post.record, post.told, post.rule, post.first)
    return desk.line, desk.jumble, desk.first, told


def deed_text(deed):
    kind, what = deed
    return f"change {what}" if kind == "change" else " ".join(["take"] + [look_text(item) for item in what])


class Mirror:
    """What a desk answers, by the functions themselves and by a post of its own."""

    def __init__(self, line, jumble, first):
        self.line, self.jumble, self.first, self.post = line, jumble, first, None

    def answer(self, text):
        name, *words = text.split(" ")
        if name in OF_POST:
            return self.of_post(name, words)
        if name == "jumble":
            self.jumble = Jumble.read(" ".join(words))
            return "set"
        if name == "open":
            self.post = Post(self.line, self.jumble, self.first)
            return "open"
        if name == "span":
            return str(span(self.line))
        if name == "need":
            return "never" if self.jumble.need is None else str(self.jumble.need)
        if name == "forced":
            paper = decide(self.line, self.jumble)
            if type(paper) is not Twins:
                return "forced"
            return f"twins {paper.place} {paper.one.letter(paper.place)} {paper.other.letter(paper.place)}"
        if name == "looks":
            return " ".join(look_text(look) for look in looks(self.line, int(words[0])))
        if name == "alike":
            common = common_looks(self.line, int(words[0]), int(words[1]))
            return look_text(common[0]) if common else "unlike"
        shown = next_shown(self.line, read_look(words[0]), int(words[1]))
        return "none" if shown is None else str(shown)

    def of_post(self, name, words):
        post = self.post
        if name == "take":
            pairs = post.take_all(*[read_look(word) for word in words])
            return " ".join(f"{place}:{number}" for place, number in pairs) or "none"
        if name == "change":
            post.change(Jumble.read(" ".join(words)))
            return "changed"
        if name in ("undo", "redo"):
            return deed_text(getattr(post, name)())
        if name in ("begin", "keep", "drop"):
            getattr(post, name)()
            return str(post.open_trials)
        if not post.record:
            return "none"
        rows = [(place, look_text(item), "-" if number is None else number) for place, (item, number) in enumerate(zip(post.record, post.by_place))]
        return columns(tuple(rows), (5, -30, 1))


def outcome(call, *args):
    try:
        return "told", call(*args)
    except PostError as error:
        return type(error).__name__, tuple(vars(error).values())


def drawn_text(rand, line, first):
    """A row that a desk can be asked, mostly."""
    name = rand.choice(NAMES + ("take", "take", "take", "open", "undo", "redo", "redo"))
    if name in ("jumble", "change"):
        return f"{name} {rand.choice(RULES)}"
    number = first + rand.randrange(12)
    words = [look_text(rand.choice(looks(line, first + rand.randrange(6)))) for _ in range(rand.randint(1, 3))]
    if name == "take":
        return " ".join([name] + [rand.choice((word, word, word, word, "?", "x|y", "_")) for word in words])
    if name == "looks":
        return f"looks {number}"
    if name == "alike":
        return f"alike {number} {first + rand.randrange(30)}"
    return f"next {rand.choice((words[0], 'x', '_|_'))} {number}" if name == "next" else name


class TestBesideTheFunctions(unittest.TestCase):

    def test_drawn_rows(self):
        rand = random.Random(621)
        counts = {}
        lines = [DIGITS, DIGITS, SEEN[12], LAGGING[7], SEEN[4], wide_lines.sliding_line((3, 4), (0, 1), (1, 0), (3, (0, 1)), (3, (1, 3)))] + small_lines.small_lines(6, 622)
        for _ in range(120):
            line, first = rand.choice(lines), rand.choice((0, 0, 8, 10 ** 59 - 1))
            desk, mirror = Desk(line, rand.choice(RULES[:9]), first), Mirror(line, Jumble(), first)
            mirror.jumble = desk.jumble
            for _ in range(40):
                text = drawn_text(rand, line, first)
                if rand.random() < 0.1:
                    text = rand.choice(changed_texts(text))
                self.step(desk, mirror, text, counts)
        for name in NAMES:
            self.assertGreater(counts.get((name, "told"), 0), 10, name)
        for name in ("BadAsk", "Unfit", "NotForced", "NothingKept", "BadValue"):
            self.assertGreater(sum(many for (_, told), many in counts.items() if told == name), 10, name)

    def step(self, desk, mirror, text, counts):
        before = all_of(desk)
        kind, told = outcome(desk.ask, text)
        word = wrong_word(text, follows, whole)
        if word is not None:
            expected = ("BadAsk", (0, word))
        elif text.split(" ")[0] in OF_POST and mirror.post is None:
            expected = ("BadAsk", (0, 0))
        else:
            expected = outcome(mirror.answer, text)
        self.assertEqual((kind, told), expected, text)
        if kind != "told":
            self.assertEqual(all_of(desk), before)
        self.assertEqual(all_of(desk), all_of(mirror))
        key = (text.split(" ")[0], kind)
        counts[key] = counts.get(key, 0) + 1


class TestDesks(unittest.TestCase):

    def test_a_fresh_desk(self):
        desk = Desk(first=8, jumble=Jumble(1, 2), line=DIGITS)
        self.assertEqual((desk.line, desk.jumble, desk.first, desk.post), (DIGITS, Jumble(1, 2), 8, None))
        for name in OF_POST:
            text = {"take": "take 1", "change": "change early 1 late 1"}.get(name, name)
            self.assertEqual(raised(desk.ask, text), ("BadAsk", 0, 0))
        self.assertEqual(raised(desk.ask, "take x|"), ("BadAsk", 0, 1))
        self.assertEqual(raised(desk.ask, "undo 1"), ("BadAsk", 0, 1))
        self.assertEqual(desk.ask(text="need"), "3")
        self.assertEqual(desk.ask("open"), "open")
        self.assertEqual((desk.post.line, desk.post.first, desk.post.rule), (DIGITS, 8, Jumble(1, 2)))
        self.assertNotEqual(desk, Desk(DIGITS, Jumble(1, 2), 8))

    def test_refused(self):
        for value in odd_values():
            if not isinstance(value, Line):
                self.assertEqual(raised(Desk, value, value, value), ("BadValue", "line"))
            if type(value) is not Jumble:
                self.assertEqual(raised(Desk, DIGITS, value, value), ("BadValue", "jumble"))
            self.assertEqual(raised(Desk, DIGITS, Jumble(20, 20), value), ("BadValue", "first"))
            desk = Desk(DIGITS, Jumble(1, 2))
            if not isinstance(value, str):
                self.assertEqual(raised(desk.ask, value), ("BadAsk", 0, 0))
                self.assertEqual(raised(next, desk.run(value)), ("BadText", 0, 0))
        self.assertEqual(raised(Desk, DIGITS, Jumble(), 10 ** 59), ("BadValue", "first"))

    def test_the_jumble_and_the_rule(self):
        """The jumble of the desk is that of the next post; the rule of a post changes by itself."""
        desk = Desk(DIGITS, Jumble(20, 20))
        name, (paper,) = outcome(desk.ask, "open")
        self.assertEqual((name, paper.jumble, desk.post), ("NotForced", Jumble(20, 20), None))
        self.assertEqual(desk.ask("forced").split(" ")[0], "twins")
        self.assertEqual([desk.ask("jumble early 1 late 1"), desk.ask("need"), desk.ask("forced"), desk.ask("open")], ["set", "2", "forced", "open"])
        self.assertEqual([desk.ask("take 1"), desk.ask("change early 2 late 2"), desk.ask("need")], ["0:1", "changed", "2"])
        first = desk.post
        self.assertEqual([desk.ask("jumble early 1 late 1 lost 2 again apart 1"), desk.ask("need"), desk.ask("forced")], ["set", "never", "twins 0 0 1"])
        self.assertEqual((desk.post, desk.post.rule), (first, Jumble(2, 2)))
        self.assertEqual([desk.ask("undo"), desk.ask("undo"), desk.ask("redo"), desk.ask("redo")], ["change early 2 late 2", "take 1", "take 1", "change early 2 late 2"])
        name, _ = outcome(desk.ask, "open")
        self.assertEqual((name, desk.post), ("NotForced", first))
        self.assertEqual([desk.ask("jumble early 0 late 0"), desk.ask("open"), desk.ask("told")], ["set", "open", "none"])
        self.assertEqual(len(first.record), 1)

    def test_told(self):
        desk = Desk(DIGITS, Jumble(1, 1, 0, False, 2))
        self.assertEqual([desk.ask("open"), desk.ask("told"), desk.ask("take ?"), desk.ask("take 0"), desk.ask("take ?")], ["open", "none", "none", "0:1 1:0", "none"])
        self.assertEqual(desk.ask("told"), f"    0 ?{' ' * 29} 1\n    1 0{' ' * 29} 0\n    2 ?{' ' * 29} -")
        self.assertEqual([desk.ask("begin"), desk.ask("begin"), desk.ask("take 2"), desk.ask("keep"), desk.ask("drop")], ["1", "2", "2:3 3:2", "1", "0"])
        self.assertEqual(desk.ask("told").count("\n"), 2)
        self.assertEqual(raised(desk.ask, "keep"), ("NothingKept", "trial"))
        self.assertEqual(raised(desk.ask, "take ?"), ("Unfit", 3))
        self.assertEqual(raised(desk.ask, "take 3|_"), ("BadValue", "look"))
        desk.post.take_all()
        self.assertEqual(desk.ask("undo"), "take")

    def test_tables_that_are_too_great(self):
        desk = Desk(wide_lines.above_4000()[0][0], Jumble(1, 1))
        for text in ("span", "forced", "open"):
            self.assertEqual(raised(desk.ask, text), ("TooMany", "states"))
        self.assertEqual([desk.ask("need"), desk.ask("jumble early 0 late 0 again apart 1"), desk.ask("forced"), desk.ask("need")], ["2", "set", "twins 1 0 1", "never"])


class TestRuns(unittest.TestCase):

    def test_rows_as_one_text(self):
        """Up to the first error, with the index of its row; what the rows ahead of it did stays."""
        rand = random.Random(623)
        broken = 0
        for _ in range(60):
            line, rule = rand.choice((DIGITS, SEEN[12], LAGGING[7])), rand.choice(RULES[:8])
            rows = ["open"] + [drawn_text(rand, line, 0) for _ in range(rand.randint(0, 9))]
            if rand.random() < 0.5:
                at = rand.randrange(len(rows))
                rows[at] = rand.choice(changed_texts(rows[at]))
            one, other = Desk(line, rule), Desk(line, rule)
            rows = "\n".join(rows).split("\n")
            told, answers = one.run("\n".join(rows)), []
            for at, row in enumerate(rows):
                kind, answer = outcome(other.ask, row)
                if kind != "told":
                    expected = (kind, (at, answer[1]) if kind == "BadAsk" else answer)
                    self.assertEqual(outcome(next, told), expected)
                    broken += 1
                    break
                self.assertEqual(next(told), answer)
                self.assertEqual(all_of(one), all_of(other))
            self.assertEqual(list(told), [])
            self.assertEqual(all_of(one), all_of(other))
        self.assertGreater(broken, 15)

    def test_errors_of_rows(self):
        desk = Desk(DIGITS, Jumble(1, 2))
        self.assertEqual(raised(list, desk.run("span\nneed\ntake 1")), ("BadAsk", 2, 0))
        self.assertEqual(raised(list, desk.run("open\ntake 1\ntake 1 x|")), ("BadAsk", 2, 2))
        self.assertEqual(desk.post.by_place, (1,))
        self.assertEqual(raised(list, desk.run("take 2\ntake 9")), ("Unfit", 2))
        self.assertEqual(desk.post.by_place, (1, 2))
        self.assertEqual(raised(list, desk.run("")), ("BadAsk", 0, 0))
        self.assertEqual(raised(list, desk.run("told\n")), ("BadAsk", 1, 0))
        self.assertEqual(list(desk.run(text="take 0\nundo")), ["2:0", "take 0"])

    def test_each_row_when_its_answer_is_requested(self):
        desk = Desk(DIGITS, Jumble(1, 2))
        told = desk.run("open\ntake 1\ntake 2")
        self.assertIsNone(desk.post)
        next(told)
        self.assertEqual(desk.post.record, ())
        next(told)
        self.assertEqual(desk.post.record, (("1",),))

    def test_two_runs_of_one_desk(self):
        desk = Desk(DIGITS, Jumble(1, 2))
        one, other = desk.run("open\ntake 1\nundo\ntold"), desk.run("take 2\ntake 0\nredo\ntake 0")
        self.assertEqual([next(one), next(one), next(other), next(one), next(one)], ["open", "0:1", "1:2", "take 2", f"    0 1{' ' * 29} 1"])
        self.assertEqual(list(one), [])
        self.assertEqual([next(other), raised(next, other)], ["1:0", ("NothingKept", "redo")])
        self.assertEqual(list(other), [])
        self.assertEqual(desk.ask("told").count("\n"), 1)


if __name__ == "__main__":
    unittest.main()
