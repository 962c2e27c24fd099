"""Jumbles: bounds, spread, need, texts, and which jumble lies within another one."""

import itertools
import random
import unittest

from jumblepost.jumbles import Jumble
from jumblepost.runs import Run, fits
from tests import written
from tests.helpers import changed_texts, is_integer_word, odd_values, raised, wrong_word

FIELDS = ("early", "late", "lost", "again", "apart")


def told(jumble):
    return tuple(getattr(jumble, name) for name in FIELDS)


def small_jumbles(most=3, lost=3):
    """All small jumbles."""
    for early, late, gone, again in itertools.product(range(most), range(most), range(lost), (False, True)):
        for apart in range(max(1, written.spread_of(early, late)) + 1):
            yield Jumble(early, late, gone, again, apart)


def can_follow(ahead, word):
    """Whether a word can stand behind others that can, in the text of a jumble."""
    if len(ahead) < 4:
        return [word == "early", is_integer_word(word, 0, 20), word == "late", is_integer_word(word, 0, 20)][len(ahead)]
    rest = ahead[4:]
    spread = written.spread_of(int(ahead[1]), int(ahead[3]))
    if rest and rest[-1] == "lost":
        return is_integer_word(word, 1, 20)
    if rest and rest[-1] == "apart":
        return is_integer_word(word, 1, max(spread, 1))
    if "apart" in rest:
        return False
    if "again" in rest:
        return word == "apart"
    return word in (("again", "apart") if "lost" in rest else ("lost", "again", "apart"))


def is_whole(words):
    return len(words) >= 4 and words[-1] not in ("lost", "apart")


class TestJumbles(unittest.TestCase):

    def test_attributes_and_defaults(self):
        self.assertEqual(told(Jumble()), (0, 0, 0, False, 0))
        self.assertEqual(told(Jumble(1, 2, 3, True, 3)), (1, 2, 3, True, 3))
        self.assertEqual(told(Jumble(apart=1, again=True, lost=20, late=20, early=0)), (0, 20, 20, True, 1))
        self.assertEqual(told(Jumble(20, 20, 0, False, 40)), (20, 20, 0, False, 40))
        self.assertEqual(Jumble.MOST, 20)
        self.assertEqual(Jumble(2).MOST, 20)
        self.assertEqual(told(Jumble(late=4)), (0, 4, 0, False, 0))

    def test_bounds(self):
        for early, late in itertools.product((0, 1, 2, 19, 20), repeat=2):
            spread = written.spread_of(early, late)
            for apart in range(spread + 3):
                if apart <= max(spread, 1):
                    self.assertEqual(Jumble(early, late, apart=apart).apart, apart)
                else:
                    self.assertEqual(raised(Jumble, early, late, apart=apart), ("BadValue", "apart"))
        for name in ("early", "late", "lost", "apart"):
            for value in (-1, 21, 10 ** 60, True, "1", None):
                self.assertEqual(raised(Jumble, **{name: value}), ("BadValue", name))
        self.assertEqual(raised(Jumble, 20, 20, 0, False, 41), ("BadValue", "apart"))
        self.assertEqual(raised(Jumble, 1, 0, 0, False, 2), ("BadValue", "apart"))
        for value in (0, 1, None, "True", ()):
            self.assertEqual(raised(Jumble, again=value), ("BadValue", "again"))

    def test_any_values_and_the_first_wrong_parameter(self):
        good = (1, 2, 3, True, 3)
        for value in odd_values():
            for at, name in enumerate(FIELDS):
                if name == "again" and isinstance(value, bool):
                    continue
                args = good[:at] + (value,) * (len(good) - at)
                self.assertEqual(raised(Jumble, *args), ("BadValue", name))
                self.assertEqual(raised(Jumble, *good[:at], value, *good[at + 1:]), ("BadValue", name))

    def test_spread_and_plain(self):
        for jumble in small_jumbles():
            early, late, lost, again, apart = told(jumble)
            self.assertEqual(jumble.spread, 0 if early == 0 or late == 0 else early + late)
            self.assertIs(jumble.plain, (lost, again, apart) == (0, False, 0))
        self.assertEqual([Jumble(20, 20).spread, Jumble(20, 0).spread, Jumble(0, 20).spread, Jumble(1, 20).spread], [40, 0, 0, 21])

    def test_need(self):
        needs = {
            (0, 0, 0, False, 0): 1, (5, 0, 0, False, 0): 1, (0, 5, 0, False, 1): 1, (1, 1, 0, False, 0): 2, (20, 20, 0, False, 0): 40,
            (0, 0, 1, False, 0): 2, (3, 0, 2, False, 0): 3, (1, 1, 1, False, 0): 4, (1, 1, 2, False, 0): 5, (20, 20, 20, False, 0): 61,
            (0, 0, 0, True, 0): 2, (0, 0, 3, True, 0): 5, (1, 1, 0, True, 0): 4, (1, 1, 1, True, 0): 5, (20, 20, 20, True, 0): 62,
            (1, 2, 0, False, 3): 4, (1, 2, 0, False, 2): None, (1, 2, 0, False, 1): None, (20, 20, 0, False, 40): 41, (0, 0, 1, False, 1): None,
            (0, 0, 0, True, 1): None, (1, 1, 1, False, 2): None, (1, 1, 0, True, 2): None, (1, 1, 1, True, 2): None,
        }
        for parts, need in needs.items():
            self.assertEqual(Jumble(*parts).need, need, parts)
        self.assertEqual([Jumble(2, 2).need, Jumble(1, 1, 1).need, Jumble(1, 1, 2, True).need, Jumble(3, 0).need, Jumble(1, 2, 0, False, 3).need, Jumble(1, 2, 0, False, 2).need], [4, 4, 6, 1, 4, None])

    def test_equal(self):
        every = list(small_jumbles(3, 2))
        for one, other in itertools.product(every[::3], every[::2]):
            self.assertIs(one == other, told(one) == told(other))
        for value in odd_values() + [(0, 0, 0, False, 0)]:
            if not isinstance(value, Jumble):
                self.assertFalse(Jumble() == value)
        self.assertEqual(Jumble(1, 2), Jumble(1, 2))


class TestTexts(unittest.TestCase):

    def test_of_all(self):
        for jumble in small_jumbles():
            text = str(jumble)
            early, late, lost, again, apart = told(jumble)
            told_text = f"early {early} late {late}"
            told_text += f" lost {lost}" if lost else ""
            told_text += " again" if again else ""
            self.assertEqual(text, told_text + (f" apart {apart}" if apart else ""))
            self.assertEqual(Jumble.read(text), jumble)
        self.assertEqual(str(Jumble(20, 19, 18, True, 17)), "early 20 late 19 lost 18 again apart 17")

    def test_changed(self):
        wrong = 0
        for jumble in (Jumble(), Jumble(1, 2, 3, True, 3), Jumble(20, 20, apart=40), Jumble(0, 20, 20), Jumble(2, 1, again=True), Jumble(3, 0, apart=1)):
            for text in changed_texts(str(jumble), ("early", "late", "lost", "again", "apart", "20", "21", "3", "4", "40", "41")):
                at = wrong_word(text, can_follow, is_whole)
                if at is None:
                    self.assertEqual(str(Jumble.read(text)), text)
                else:
                    wrong += 1
                    self.assertEqual(raised(Jumble.read, text), ("BadText", 0, at), text)
        self.assertGreater(wrong, 500)
        self.assertEqual(raised(Jumble.read, "early 1 late 2 lost 0"), ("BadText", 0, 5))
        self.assertEqual(raised(Jumble.read, "early 1 late 2 apart 0"), ("BadText", 0, 5))

    def test_no_string(self):
        for value in odd_values():
            if not isinstance(value, str):
                self.assertEqual(raised(Jumble.read, value), ("BadText", 0, 0))
        self.assertEqual(Jumble.read(text="early 0 late 0"), Jumble())


def witnesses(jumble):
    """Runs with unread places that go as far as a jumble lets in one thing."""
    early, late = (jumble.early, jumble.late) if jumble.spread else (0, 0)
    near = jumble.spread + jumble.lost + 1
    yield Run(0, [early, *range(early)]), ()
    yield Run(0, [*range(1, late + 1), 0]), ()
    yield Run(3, (3, 3)), ()
    yield Run(0, (), [number for number in range(9 * near) if number % near < jumble.lost]), ()
    yield Run(0, (), [number for number in range(9 * near) if number % near >= near - jumble.lost]), ()
    yield Run(0), (5,)
    yield Run(0), (5, 5 + max(jumble.apart, 1))
    yield Run(0), (7, 8)


class TestWithin(unittest.TestCase):

    def test_against_runs(self):
        """A jumble lies within another one just if no run tells them apart."""
        every = list(small_jumbles(3, 3))
        found = {True: 0, False: 0}
        rand = random.Random(131)
        for one in every:
            known = [told for told in witnesses(one) if fits(told[0], one, told[1])]
            for other in rand.sample(every, 40):
                all_fit = all(fits(run, other, unread) for run, unread in known)
                self.assertIs(one.within(other), all_fit, (told(one), told(other)))
                found[all_fit] += 1
        self.assertGreater(min(found.values()), 500)

    def test_each_run_fits(self):
        rand = random.Random(132)
        every = list(small_jumbles(3, 3))
        runs = [(run, sorted(rand.sample(range(9), rand.choice((0, 0, 1, 2))))) for run in written.random_runs(1500, 133, begin=0, most=4)]
        met = 0
        for one in rand.sample(every, 30):
            known = [told for told in runs if fits(told[0], one, told[1])]
            for other in every[::5]:
                if one.within(other):
                    for run, unread in known:
                        self.assertTrue(fits(run, other, unread))
                        met += 1
        self.assertGreater(met, 10000)

    def test_examples_and_values(self):
        self.assertIs(Jumble(0, 0, 1).within(Jumble(2, 2, 1)), False)
        self.assertIs(Jumble(0, 5).within(Jumble(1, 1)), True)
        self.assertIs(Jumble(1, 1).within(other=Jumble(1, 1)), True)
        self.assertIs(Jumble(20, 20, 20, True, 40).within(Jumble(20, 20, 20, True, 40)), True)
        self.assertIs(Jumble(20, 20, 20, True, 39).within(Jumble(20, 20, 20, True, 40)), False)
        for jumble in (Jumble(), Jumble(1, 1, 1, True, 2)):
            for value in odd_values():
                if not isinstance(value, Jumble):
                    self.assertEqual(raised(jumble.within, value), ("BadValue", "other"))


if __name__ == "__main__":
    unittest.main()
