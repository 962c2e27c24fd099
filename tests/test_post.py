"""Posts: rows of deeds beside a reader that reads the record from the beginning; what is refused changes nothing."""

import random
import unittest

from jumblepost.errors import PostError
from jumblepost.jumbles import Jumble
from jumblepost.lines import Line
from jumblepost.looks import looks
from jumblepost.post import Post, tried
from jumblepost.unread import reader
from tests import drawn, wide_lines
from tests.helpers import odd_values, raised
from tests.test_residues import LAGGING
from tests.test_twins import SEEN

DIGITS = SEEN[10]
RULES = [
    Jumble(), Jumble(1, 1), Jumble(1, 2), Jumble(2, 2), Jumble(3, 1), Jumble(0, 3), Jumble(0, 0, 2), Jumble(1, 1, 1), Jumble(0, 0, 0, True), Jumble(1, 1, 1, True),
    Jumble(0, 0, 0, False, 1), Jumble(1, 1, 0, False, 2), Jumble(1, 2, 0, False, 3), Jumble(2, 2, 0, False, 4), Jumble(20, 20), Jumble(2, 2, 0, False, 1), Jumble(1, 1, 2, False, 1)]
FORCED = [rule for rule in RULES if rule.need is not None and rule.need <= 10]


def outcome(call, *args):
    """What a call returns, or the name and the fields of its error."""
    try:
        return "told", call(*args)
    except PostError as error:
        return "raised", (type(error).__name__, *vars(error).values())


class Model:
    """What a post has to tell: its deeds and trials in lists, all else worked out anew."""

    def __init__(self, line, rule, first):
        self.line, self.first, self.begin = line, first, rule
        self.deeds, self.undone, self.trials = [], [], []

    def rule(self, deeds=None):
        rules = [what for kind, what in (self.deeds if deeds is None else deeds) if kind == "change"]
        return rules[-1] if rules else self.begin

    def record(self, deeds=None):
        return tuple(item for kind, what in (self.deeds if deeds is None else deeds) if kind == "take" for item in what)

    def teller(self, deeds=None):
        """A reader that has taken the record from the beginning, and all that it told."""
        told = reader(self.line, self.rule(deeds), self.first)
        return told, told.take_all(*self.record(deeds))

    def do(self, *deeds):
        """The pairs of the last deed."""
        for deed in deeds:
            if type(deed) is not tuple or len(deed) != 2 or deed[0] not in ("take", "change") or (deed[0] == "take" and type(deed[1]) is not tuple):
                return "raised", ("BadValue", "deeds")
        row = list(self.deeds)
        pairs = ()
        for kind, what in deeds:
            if kind == "take":
                told, _ = self.teller(row)
                kind_told, pairs = outcome(told.take_all, *what)
            else:
                kind_told, pairs = outcome(self.changed, row, what)
            if kind_told == "raised":
                return kind_told, pairs
            row.append((kind, what))
        if deeds:
            self.deeds, self.undone = row, []
        return "told", pairs

    def changed(self, row, rule):
        reader(self.line, rule, self.first).take_all(*self.record(row))

    def undo(self):
        if len(self.deeds) == (len(self.trials[-1][0]) if self.trials else 0):
            return "raised", ("NothingKept", "undo")
        self.undone.insert(0, self.deeds.pop())
        return "told", self.undone[0]

    def redo(self):
        if not self.undone:
            return "raised", ("NothingKept", "redo")
        self.deeds.append(self.undone.pop(0))
        return "told", self.deeds[-1]

    def start(self):
        self.trials.append((list(self.deeds), list(self.undone)))
        self.undone = []
        return "told", None

    def end(self, drop):
        if not self.trials:
            return "raised", ("NothingKept", "trial")
        deeds, undone = self.trials.pop()
        if drop:
            self.deeds, self.undone = deeds, undone
        return "told", None


class Game:
    """A post and its model, to which the same is done."""

    def __init__(self, case, line, rule, first, rand):
        self.case, self.rand = case, rand
        self.post = Post(line, rule, first)
        self.model = Model(line, rule, first)
        self.line, self.first = line, first
        self.counts = {}

    def check(self):
        post, model = self.post, self.model
        told, pairs = model.teller()
        by_place = dict(pairs)
        self.case.assertEqual((post.deeds, post.undone, post.open_trials), (tuple(model.deeds), tuple(model.undone), len(model.trials)))
        self.case.assertEqual((post.line, post.first, post.rule, post.record), (self.line, self.first, model.rule(), model.record()))
        self.case.assertEqual(post.told, pairs)
        self.case.assertEqual(post.by_place, tuple(by_place.get(place) for place in range(len(model.record()))))

    def items(self):
        """Some items that may come next, perhaps with a wrong one."""
        record = self.model.record()
        letters = drawn.drawn_run(self.rand, self.model.rule(), len(record) + 3)
        found = []
        for _ in range(self.rand.choice((0, 1, 1, 2, 3))):
            number = self.first + max(0, len(record) + len(found) + self.rand.choice((-2, -1, 0, 0, 1, 1, 2, 3)))
            item = self.rand.choice(looks(self.line, number))
            found.append(self.rand.choice((item, item, item, item, item, item, None, ("x",), 7, ())) if self.rand.random() < 0.4 else item)
        if not record and self.rand.random() < 0.5:
            found = [self.rand.choice(looks(self.line, self.first + n)) for n in letters]
        return tuple(found)

    def deed(self):
        return ("take", self.items()) if self.rand.random() < 0.7 else ("change", self.rand.choice(RULES + [None, 3]))

    def step(self):
        """One thing that is done to both."""
        kind = self.rand.choice(("take", "take", "take", "take_all", "take_all", "change", "do", "undo", "undo", "redo", "begin", "keep", "drop", "tried"))
        post, model = self.post, self.model
        if kind == "take":
            item = (self.items() + (("9",),))[0]
            told, expected = outcome(post.take, item), model.do(("take", (item,)))
        elif kind == "take_all":
            items = self.items()
            told, expected = outcome(post.take_all, *items), model.do(("take", items))
        elif kind == "change":
            rule = self.rand.choice(RULES + FORCED + [None, "x"])
            told, expected = outcome(post.change, rule), model.do(("change", rule))
        elif kind == "do":
            deeds = [self.deed() for _ in range(self.rand.choice((0, 1, 2, 3)))]
            if self.rand.random() < 0.1:
                deeds.append(self.rand.choice((("take", []), ("undo", ()), ["take", ()], ("take",), None, ("change",))))
            told, expected = outcome(post.do, *deeds), model.do(*deeds)
            expected = ("told", None) if expected[0] == "told" else expected
        elif kind == "tried":
            told, expected = self.tried()
        else:
            told = outcome(getattr(post, kind))
            expected = {"undo": model.undo, "redo": model.redo, "begin": model.start, "keep": lambda: model.end(False), "drop": lambda: model.end(True)}[kind]()
        self.case.assertEqual(told[0], expected[0], (kind, told, expected))
        if told[0] == "raised" and told[1][0] == "NotForced":
            self.case.assertEqual(told[1], expected[1])
        else:
            self.case.assertEqual(told, expected, kind)
        key = (kind, told[0], told[1][0] if told[0] == "raised" else "")
        self.counts[key] = self.counts.get(key, 0) + 1

    def tried(self):
        items = self.items()
        teller, _ = self.model.teller()
        pairs = []
        end = None
        for at, item in enumerate(items):
            kind, told = outcome(teller.take, item)
            if kind == "raised":
                end = len(self.model.record()) + at
                break
            pairs += told
        return ("told", tried(self.post, *items)), ("told", (tuple(pairs), end))


class TestRowsOfDeeds(unittest.TestCase):

    def test_beside_a_reader(self):
        rand = random.Random(591)
        counts = {}
        for _ in range(120):
            line = rand.choice((DIGITS, DIGITS, SEEN[12], SEEN[6], wide_lines.near_line(3, 5), LAGGING[12]))
            rule = rand.choice([rule for rule in FORCED if raised(reader, line, rule) is None])
            game = Game(self, line, rule, rand.choice((0, 0, 8, 10 ** 59 - 1)), rand)
            for _ in range(60):
                game.step()
                game.check()
            for key, many in game.counts.items():
                counts[key] = counts.get(key, 0) + many
        for key in (
                ("take", "told", ""), ("take", "raised", "Unfit"), ("take", "raised", "BadValue"), ("take_all", "told", ""), ("take_all", "raised", "Unfit"),
                ("change", "told", ""), ("change", "raised", "Unfit"), ("change", "raised", "NotForced"), ("change", "raised", "BadValue"), ("do", "told", ""),
                ("do", "raised", "Unfit"), ("do", "raised", "BadValue"), ("undo", "told", ""), ("undo", "raised", "NothingKept"), ("redo", "told", ""),
                ("redo", "raised", "NothingKept"), ("begin", "told", ""), ("keep", "told", ""), ("keep", "raised", "NothingKept"), ("drop", "told", ""), ("tried", "told", "")):
            self.assertGreater(counts.get(key, 0), 15, key)

    def test_long_records(self):
        """Looks one by one, undone and done again, and the rule changed in between."""
        rand = random.Random(592)
        letters = drawn.drawn_run(rand, Jumble(1, 2), 120)
        record = [looks(DIGITS, n)[0] for n in letters]
        post = Post(DIGITS, Jumble(1, 2))
        for item in record:
            post.take(item)
        self.assertEqual(post.by_place, tuple(letters))
        post.change(Jumble(2, 4))
        post.change(Jumble(1, 2))
        self.assertEqual(post.told, tuple(enumerate(letters)))
        for _ in range(122):
            post.undo()
        self.assertEqual((post.deeds, post.record, len(post.undone)), ((), (), 122))
        for _ in range(122):
            post.redo()
        self.assertEqual((post.by_place, post.undone), (tuple(letters), ()))


class TestPosts(unittest.TestCase):

    def test_a_fresh_post(self):
        post = Post(first=8, jumble=Jumble(1, 1), line=DIGITS)
        self.assertEqual((post.line, post.first, post.rule, post.record, post.told, post.by_place), (DIGITS, 8, Jumble(1, 1), (), (), ()))
        self.assertEqual((post.deeds, post.undone, post.open_trials), ((), (), 0))
        self.assertEqual(post.take(look=("9",)), ((0, 9),))
        self.assertIsNone(post.change(jumble=Jumble(1, 2)))
        self.assertIsNone(post.do())
        self.assertEqual(post.deeds, (("take", (("9",),)), ("change", Jumble(1, 2))))
        self.assertEqual([post.begin(), post.keep(), post.begin(), post.drop()], [None] * 4)
        self.assertNotEqual(post, Post(DIGITS, Jumble(1, 1), 8))

    def test_errors_of_readers(self):
        large = wide_lines.above_4000()[0][0]
        for value in odd_values():
            if not isinstance(value, Line):
                self.assertEqual(raised(Post, value, value, value), ("BadValue", "line"))
            if type(value) is not Jumble:
                self.assertEqual(raised(Post, large, value, value), ("BadValue", "jumble"))
            self.assertEqual(raised(Post, large, Jumble(9, 9), value), ("BadValue", "first"))
        self.assertEqual(raised(Post, large, Jumble(9, 9), 10 ** 59), ("BadValue", "first"))
        self.assertEqual(raised(Post, large, Jumble(9, 9), 3), ("TooMany", "states"))
        name, paper = raised(Post, DIGITS, Jumble(9, 9))
        self.assertEqual((name, paper.jumble), ("NotForced", Jumble(9, 9)))

    def test_any_values(self):
        for value in odd_values():
            post = Post(DIGITS, Jumble(1, 2, 0, False, 3))
            post.take_all(("1",), ("0",))
            post.undo()
            before = (post.deeds, post.undone, post.record)
            if value is not None:
                self.assertEqual(raised(post.take, value), ("BadValue", "look"))
                self.assertEqual(raised(post.take_all, ("0",), value), ("BadValue", "look"))
                self.assertEqual(raised(post.do, ("take", (("0",), value))), ("BadValue", "look"))
            if type(value) is not Jumble:
                self.assertEqual(raised(post.change, value), ("BadValue", "jumble"))
                self.assertEqual(raised(post.do, ("take", (("0",),)), ("change", value)), ("BadValue", "jumble"))
            self.assertEqual(raised(post.do, value), ("BadValue", "deeds"))
            self.assertEqual(raised(post.do, ("take", (7,)), value), ("BadValue", "deeds"))
            self.assertEqual(raised(post.do, (value, ())), ("BadValue", "deeds"))
            if not isinstance(value, tuple):
                self.assertEqual(raised(post.do, ("take", value)), ("BadValue", "deeds"))
            self.assertEqual((post.deeds, post.undone, post.record), before)
            self.assertEqual(tried(post, value), ((), None if value is None else 0))
            self.assertEqual((post.deeds, post.undone, post.record), before)
            if not isinstance(value, Post):
                self.assertEqual(raised(tried, value, ("0",)), ("BadValue", "post"))

    def test_changes_that_do_not_fit(self):
        """The least place whose item a reader by the new rule refuses."""
        post = Post(DIGITS, Jumble(2, 2))
        post.take_all(("0",), ("3",), ("1",), ("2",))
        self.assertEqual(raised(post.change, Jumble(1, 1)), ("Unfit", 1))
        self.assertEqual(raised(post.change, Jumble()), ("Unfit", 1))
        self.assertIsNone(post.change(Jumble(2, 1)))
        post = Post(DIGITS, Jumble(2, 2))
        post.take_all(("0",), ("2",), ("3",), ("1",))
        self.assertEqual(raised(post.change, Jumble(2, 1)), ("Unfit", 2))
        self.assertEqual(raised(post.change, Jumble()), ("Unfit", 1))
        post = Post(DIGITS, Jumble(1, 1, 0, False, 2))
        post.take_all(None, ("1",), None)
        self.assertEqual(raised(post.change, Jumble(1, 1)), ("Unfit", 0))
        self.assertEqual(raised(post.change, Jumble(1, 2, 0, False, 3)), ("Unfit", 2))
        self.assertEqual(post.by_place, (0, 1, None))
        self.assertEqual(post.take(("3",)), ((2, 2), (3, 3)))
        self.assertEqual(post.told, ((0, 0), (1, 1), (2, 2), (3, 3)))

    def test_trials_within_one_another(self):
        post = Post(DIGITS, Jumble(1, 1))
        post.take(("0",))
        post.take(("1",))
        post.undo()
        post.begin()
        self.assertEqual((post.undone, post.open_trials), ((), 1))
        for call, word in ((post.undo, "undo"), (post.redo, "redo")):
            self.assertEqual(raised(call), ("NothingKept", word))
        post.take(("2",))
        post.begin()
        self.assertEqual(raised(post.undo), ("NothingKept", "undo"))
        post.take(("1",))
        post.undo()
        post.keep()
        # What was undone within the trial alone can be done again, and what was done ahead of it undone.
        self.assertEqual(post.redo(), ("take", (("1",),)))
        self.assertEqual([post.undo(), post.undo()], [("take", (("1",),)), ("take", (("2",),))])
        self.assertEqual(raised(post.undo), ("NothingKept", "undo"))
        self.assertEqual(len(post.undone), 2)
        post.drop()
        self.assertEqual((post.record, post.undone, post.open_trials), ((("0",),), (("take", (("1",),)),), 0))
        self.assertEqual(raised(post.drop), ("NothingKept", "trial"))
        self.assertEqual(raised(post.keep), ("NothingKept", "trial"))
        self.assertEqual(post.redo(), ("take", (("1",),)))

    def test_deeds_without_items(self):
        post = Post(DIGITS, Jumble(1, 1))
        post.take(("0",))
        post.undo()
        self.assertEqual(post.take_all(), ())
        self.assertEqual((post.deeds, post.undone), ((("take", ()),), ()))
        self.assertEqual(post.undo(), ("take", ()))

    def test_tried(self):
        post = Post(DIGITS, Jumble(1, 2))
        post.take_all(("1",), ("2",), ("0",))
        post.undo()
        post.redo()
        self.assertEqual(tried(post, ("3",), ("5",), ("9",)), (((3, 3), (4, 5)), 5))
        self.assertEqual(tried(post), ((), None))
        self.assertEqual(tried(post, ("4",), ("3",)), (((3, 4), (4, 3)), None))
        self.assertEqual(tried(post, 7, ("3",)), ((), 3))
        self.assertEqual(post.record, (("1",), ("2",), ("0",)))


if __name__ == "__main__":
    unittest.main()
