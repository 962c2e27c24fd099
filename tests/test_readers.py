"""Readers: drawn runs, letter by letter; refused looks change nothing; what is not forced."""

import random
import time
import unittest

from jumblepost.forced import decide
from jumblepost.heads import begun_run
from jumblepost.jumbles import Jumble
from jumblepost.look_forced import look_twins
from jumblepost.looks import looks, shows
from jumblepost.readers import AgainReader, LossReader, PlainReader, Reader
from jumblepost.spans import span
from jumblepost.twins import Twins
from jumblepost.unread import UnreadReader, reader, readings
from tests import drawn, small_lines, wide_lines
from tests.helpers import odd_values, raised
from tests.test_spans import readable_lines
from tests.test_twins import SEEN

PLAIN = [Jumble(), Jumble(0, 5), Jumble(4, 0), Jumble(1, 1), Jumble(1, 2), Jumble(2, 1), Jumble(3, 3), Jumble(1, 6), Jumble(7, 2)]
LOSSY = [Jumble(0, 0, 1), Jumble(0, 3, 2), Jumble(1, 1, 1), Jumble(2, 2, 1), Jumble(1, 3, 2), Jumble(3, 1, 3), Jumble(0, 0, 7)]
AGAIN = [Jumble(0, 0, 0, True), Jumble(2, 0, 0, True), Jumble(1, 1, 0, True), Jumble(1, 2, 1, True), Jumble(2, 1, 2, True), Jumble(0, 0, 3, True), Jumble(3, 3, 1, True)]
UNREAD = [Jumble(0, 0, apart=1), Jumble(0, 3, apart=1), Jumble(3, 0, apart=1), Jumble(1, 1, apart=2), Jumble(1, 2, apart=3), Jumble(2, 1, apart=3), Jumble(3, 3, apart=6), Jumble(1, 5, apart=6), Jumble(6, 2, apart=8)]
CLASSES = {"plain": PlainReader, "loss": LossReader, "again": AgainReader, "unread": UnreadReader}
KINDS = [("plain", PLAIN), ("loss", LOSSY), ("again", AGAIN), ("unread", UNREAD)]
FIRSTS = (0, 1, 7, 10 ** 30 + 3, 10 ** 59 - 1)
POOL = [(span(line), line) for line in small_lines.small_lines(60, 191) + readable_lines(60, 192)]


def state(told):
    return told.places, told.held, told.last, told.missing, told.waiting, told.window


def lines_for(need, rand):
    """Lines that force a jumble of this need: some with just this span, some with others."""
    found = [line for d, line in SEEN.items() if d >= need][:1] + [line for d, line in POOL if d == need][:3]
    others = [line for d, line in POOL if d > need]
    return found + rand.sample(others, min(3, len(others)))


def cases(jumbles, seed):
    rand = random.Random(seed)
    for jumble in jumbles:
        for line in lines_for(jumble.need, rand):
            yield rand, jumble, line


class TestDrawnRuns(unittest.TestCase):

    def check_state(self, told, known):
        self.assertEqual(state(told), (known.places, known.held, known.last, known.missing, known.waiting, known.window))
        for value in (told.held, told.missing, told.window):
            self.assertIs(type(value), tuple)

    def check_run(self, rand, jumble, line, many):
        """Takes a drawn run, and looks at all that is told behind each letter."""
        first = rand.choice(FIRSTS)
        letters = [first + number for number in drawn.drawn_run(rand, jumble, many)]
        told = reader(line, jumble, first)
        self.check_state(told, drawn.Known(jumble, first, []))
        for place, number in enumerate(letters):
            look = rand.choice(looks(line, number))
            self.assertEqual(told.take(look), ((place, number),))
            self.check_state(told, drawn.Known(jumble, first, letters[:place + 1]))

    def test_plain(self):
        for rand, jumble, line in cases(PLAIN, 193):
            self.check_run(rand, jumble, line, 45)

    def test_losses(self):
        for rand, jumble, line in cases(LOSSY, 194):
            self.check_run(rand, jumble, line, 45)

    def test_again(self):
        for rand, jumble, line in cases(AGAIN, 195):
            self.check_run(rand, jumble, line, 45)

    def test_unread(self):
        for rand, jumble, line in cases(UNREAD, 196):
            first = rand.choice(FIRSTS)
            many = 50
            letters = [first + number for number in drawn.drawn_run(rand, jumble, many)]
            unread = drawn.drawn_unread(rand, jumble, many)
            told = reader(line, jumble, first)
            known = {}
            for place, number in enumerate(letters):
                fresh = {x: letters[x] for x in unread if drawn.told_at(jumble, x) == place}
                if place not in unread:
                    fresh[place] = number
                look = None if place in unread else rand.choice(looks(line, number))
                self.assertEqual(told.take(look), tuple(sorted(fresh.items())))
                known.update(fresh)
                self.check_state(told, drawn.KnownUnread(jumble, first, place + 1, known, unread))

    def test_great_jumbles(self):
        rand = random.Random(197)
        line = wide_lines.seen_line(8, 8)
        for jumble in (Jumble(20, 20), Jumble(20, 20, 20), Jumble(20, 20, 20, True), Jumble(20, 1, 20), Jumble(1, 20, 20, True), Jumble(0, 0, 20)):
            self.check_run(rand, jumble, line, 150)

    def test_held_more_than_late(self):
        """An unread letter that is not told yet keeps the told ones from being released."""
        told = reader(SEEN[10], Jumble(1, 1, apart=2))
        rows = [told.take(None), told.held, told.take(("1",)), told.held, told.last]
        self.assertEqual(rows, [(), (), ((0, 0), (1, 1)), (1,), 0])
        told = reader(SEEN[10], Jumble(2, 1, apart=3))
        self.assertEqual([told.take(None), told.take(("2",)), told.held, told.waiting], [(), ((1, 2),), (2,), 0])
        self.assertEqual([told.take(("1",)), told.held, told.last], [((0, 0), (2, 1)), (2,), 1])


class TestRefused(unittest.TestCase):

    def numbers_that_go_on(self, line, jumble, first, head, look):
        """All numbers of a look with which a run that fits goes on."""
        early, _ = drawn.bounds(jumble)
        known = [item for item in head if item is not None]
        end = max(known, default=0) + early + jumble.lost + 3 + len(head) * (1 + (jumble.lost > 0))
        return [n for n in range(end) if shows(line, first + n, look) and begun_run(jumble, head + (n,)) is not None]

    def check_look(self, told, jumble, head, look):
        """A look that may be refused; True if it is taken."""
        first = told.first
        numbers = self.numbers_that_go_on(told.line, jumble, first, head, look)
        self.assertLessEqual(len(numbers), 1)
        before = state(told)
        other = told.anew()
        other.follow(told)
        if not numbers:
            self.assertEqual(raised(told.take, look), ("Unfit", len(head)))
            self.assertEqual(raised(told.take_all, look), ("Unfit", len(head)))
            self.assertEqual(state(told), before)
            return False
        self.assertIn((len(head), first + numbers[0]), other.take(look))
        return True

    def check_case(self, rand, jumble, line):
        """A drawn run, with looks of all kinds behind each of its letters; how many are taken and refused."""
        first = rand.choice(FIRSTS)
        many = rand.randint(4, 16)
        letters = drawn.drawn_run(rand, jumble, many)
        unread = drawn.drawn_unread(rand, jumble, many)
        every = sorted({look for number in range(min(line.stamp.cycle, 12)) for look in looks(line, number)})
        told = reader(line, jumble, first)
        head = ()
        counts = [0, 0]
        for place, number in enumerate(letters):
            for look in rand.sample(every, min(4, len(every))) + [("q" * 4,) * len(every[0])]:
                counts[self.check_look(told, jumble, head, look)] += 1
            if jumble.apart == 0 or [x for x in unread if place - jumble.apart < x < place]:
                before = state(told)
                self.assertEqual(raised(told.take, None), ("Unfit", place))
                self.assertEqual(state(told), before)
            item = None if place in unread else number
            told.take(None if item is None else rand.choice(looks(line, first + number)))
            head += (item,)
        return counts

    def test_looks_with_which_no_run_goes_on(self):
        for _, jumbles in KINDS:
            taken = refused = 0
            for rand, jumble, line in cases(jumbles, 198):
                told = self.check_case(rand, jumble, line)
                refused += told[0]
                taken += told[1]
            self.assertGreater(taken, 100)
            self.assertGreater(refused, 500)

    def test_no_looks(self):
        for kind, jumbles in KINDS:
            told = reader(SEEN[10], jumbles[1])
            self.assertEqual(told.KIND, kind)
            told.take(("0",))
            before = state(told)
            for value in odd_values() + [("1", "2"), (1,), ["1"], ("1", None), ()]:
                if value is not None:
                    self.assertEqual(raised(told.take, value), ("BadValue", "look"), value)
                    self.assertEqual(raised(told.take_all, ("1",), value, None), ("BadValue", "look"))
            self.assertEqual(state(told), before)
            for look in (("",), ("x",), ("12",), ("~\n",), ("%",)):
                self.assertEqual(raised(told.take, look), ("Unfit", 1))

    def test_take_all_takes_none(self):
        for _, jumbles in KINDS:
            for rand, jumble, line in cases(jumbles[1:4], 199):
                first = rand.choice(FIRSTS)
                many = 20
                letters = [first + number for number in drawn.drawn_run(rand, jumble, many)]
                unread = drawn.drawn_unread(rand, jumble, many)
                items = [None if place in unread else looks(line, number)[0] for place, number in enumerate(letters)]
                told, one_by_one = reader(line, jumble, first), reader(line, jumble, first)
                cut = rand.randrange(many)
                for at in (0, cut):
                    bad = items[:at] + [("q" * 5,) * len(line.views[0])] + items[at:]
                    self.assertEqual(raised(told.take_all, *bad), ("Unfit", at))
                    self.assertEqual(raised(told.take_all, *items[:at], 7, *items[at:]), ("BadValue", "look"))
                    self.assertEqual(state(told), state(told.anew()))
                self.assertEqual(told.take_all(*items[:cut]), sum([one_by_one.take(item) for item in items[:cut]], ()))
                self.assertEqual(state(told), state(one_by_one))
                self.assertEqual(told.take_all(), ())
                before = state(told)
                self.assertEqual(raised(told.take_all, *items[cut:], ("q" * 5,) * len(line.views[0])), ("Unfit", many))
                self.assertEqual(state(told), before)
                self.assertEqual(told.take_all(*items[cut:]), sum([one_by_one.take(item) for item in items[cut:]], ()))
                self.assertEqual(state(told), state(one_by_one))

    def test_by_hand(self):
        loss = reader(SEEN[10], Jumble(1, 1, lost=1), first=8)
        self.assertEqual([loss.take_all(("9",), ("1",)), loss.missing, loss.window, loss.KIND], [((0, 9), (1, 11)), (8,), (10, 13), "loss"])
        self.assertEqual(raised(loss.take, ("2",)), ("Unfit", 2))
        self.assertEqual([loss.take(("0",)), loss.take(("2",)), loss.last, loss.held, loss.missing], [((2, 10),), ((3, 12),), 11, (12,), (8,)])
        # The lower end of the window must come at its last place, whatever else looks so.
        plain = reader(SEEN[2], Jumble(1, 1))
        self.assertEqual([plain.take(("1",)), plain.window, plain.take(("0",))], [((0, 1),), (0, 2), ((1, 0),)])
        self.assertEqual(raised(plain.take, ("0",)), None)


class TestKinds(unittest.TestCase):

    def test_classes(self):
        self.assertEqual([told.KIND for told in (Reader, PlainReader, LossReader, AgainReader, UnreadReader)], ["reader", "plain", "loss", "again", "unread"])
        for told in CLASSES.values():
            self.assertEqual(told.__bases__, (Reader,))
            self.assertIn("KIND", vars(told))
        for kind, jumbles in KINDS:
            for jumble in jumbles:
                told = reader(SEEN[10], jumble, 5)
                self.assertIs(type(told), CLASSES[kind])
                self.assertEqual((told.KIND, told.line, told.jumble, told.first), (kind, SEEN[10], jumble, 5))
                self.assertEqual((told.places, told.held, told.last, told.missing, told.waiting), (0, (), None, (), None))
        self.assertIs(type(reader(SEEN[10], Jumble(0, 0, 0, True))), AgainReader)
        self.assertIs(type(reader(SEEN[10], Jumble(1, 1, 3, True))), AgainReader)

    def test_anew(self):
        for kind, jumbles in KINDS:
            for rand, jumble, line in cases(jumbles[2:4], 200):
                told = reader(line, jumble, 3)
                looked = [rand.choice(looks(line, 3 + number)) for number in drawn.drawn_run(rand, jumble, 6)]
                pairs = told.take_all(*looked)
                before = state(told)
                other = told.anew()
                self.assertIs(type(other), CLASSES[kind])
                self.assertEqual((other.line, other.jumble, other.first), (line, jumble, 3))
                self.assertEqual(state(other), state(reader(line, jumble, 3)))
                self.assertEqual(other.take_all(*looked), pairs)
                self.assertEqual(state(told), before)

    def test_a_cycle_more(self):
        """With a cycle added to first, all numbers are so much greater."""
        for _, jumbles in KINDS:
            for rand, jumble, line in cases(jumbles[1:5], 201):
                many = 20
                unread = drawn.drawn_unread(rand, jumble, many)
                items = [None if place in unread else rand.choice(looks(line, n)) for place, n in enumerate(drawn.drawn_run(rand, jumble, many))]
                for more in (line.stamp.cycle, 10 ** 50 * line.stamp.cycle):
                    one, other = reader(line, jumble), reader(line, jumble, more)
                    self.assertEqual([(place, n + more) for place, n in one.take_all(*items)], list(other.take_all(*items)))
                    self.assertEqual([n + more for n in one.held], list(other.held))
                    self.assertEqual([n + more for n in one.missing], list(other.missing))
                    self.assertEqual([n + more for n in one.window], list(other.window))

    def test_long_records_at_once(self):
        begin = time.process_time()
        rand = random.Random(202)
        for jumble, line in ((Jumble(20, 20, 20, True), wide_lines.seen_line(8, 8)), (Jumble(20, 20, apart=40), wide_lines.seen_line(10, 10, 10, 10, 10)), (Jumble(0, 0, 20), SEEN[64])):
            first = 10 ** 59 - 1
            unread = drawn.drawn_unread(rand, jumble, 200)
            items = [None if place in unread else rand.choice(looks(line, first + n)) for place, n in enumerate(drawn.drawn_run(rand, jumble, 200))]
            told = reader(line, jumble, first)
            self.assertGreater(len(told.take_all(*items)), 150)
        self.assertLess(time.process_time() - begin, 20)


class TestMade(unittest.TestCase):

    def test_not_forced(self):
        for d in (1, 2, 3, 4, 6, 9):
            for jumble in PLAIN + LOSSY + AGAIN + UNREAD + [Jumble(1, 1, 1, apart=2), Jumble(1, 2, apart=2), Jumble(0, 0, 0, True, 1)]:
                if jumble.need is not None and d >= jumble.need:
                    self.assertEqual(reader(SEEN[d], jumble).places, 0)
                    continue
                for call in (lambda: reader(SEEN[d], jumble, 11), lambda: next(readings(SEEN[d], jumble, (("x",), 7), 11), None)):
                    try:
                        call()
                        self.fail(str(jumble))
                    except ValueError as error:
                        self.assertEqual(type(error).__name__, "NotForced")
                        self.assertIs(type(error.paper), Twins)
                        self.assertEqual(error.paper, decide(SEEN[d], jumble))
                        self.assertIs(look_twins(error.paper, SEEN[d]), True)

    def test_errors_in_their_order(self):
        great = wide_lines.above_4000()[0][0]
        for value in odd_values():
            if type(value).__name__ != "Line":
                self.assertEqual(raised(reader, value, value, value), ("BadValue", "line"))
                self.assertEqual(raised(next, readings(value, value, value, value)), ("BadValue", "line"))
            if type(value) is not Jumble:
                self.assertEqual(raised(reader, great, value, value), ("BadValue", "jumble"))
                self.assertEqual(raised(next, readings(great, value, value, value)), ("BadValue", "jumble"))
            if not isinstance(value, tuple):
                self.assertEqual(raised(next, readings(great, Jumble(9, 9), value, value)), ("BadValue", "record"))
            self.assertEqual(raised(reader, great, Jumble(9, 9), value), ("BadValue", "first"))
            self.assertEqual(raised(next, readings(great, Jumble(9, 9), (), value)), ("BadValue", "first"))
        for value in (10 ** 59, -1, True, 10 ** 60):
            self.assertEqual(raised(reader, SEEN[2], Jumble(9, 9), value), ("BadValue", "first"))
        self.assertEqual(raised(next, readings(great, Jumble(), ((),) * 201)), ("BadValue", "record"))
        self.assertEqual(raised(reader, great, Jumble(9, 9)), ("TooMany", "states"))
        self.assertEqual(raised(next, readings(great, Jumble(9, 9), (7,))), ("TooMany", "states"))
        self.assertEqual(raised(reader, great, Jumble(9, 9, apart=1))[0], "NotForced")
        self.assertEqual(reader(first=10 ** 59 - 1, jumble=Jumble(), line=SEEN[2]).first, 10 ** 59 - 1)


class TestReadings(unittest.TestCase):

    def test_pairs_one_by_one(self):
        for _, jumbles in KINDS:
            for rand, jumble, line in cases(jumbles[1:6], 203):
                first = rand.choice(FIRSTS)
                many = rand.choice((0, 1, 25))
                unread = drawn.drawn_unread(rand, jumble, many)
                record = tuple(None if place in unread else rand.choice(looks(line, first + n)) for place, n in enumerate(drawn.drawn_run(rand, jumble, many)))
                self.assertEqual(tuple(readings(line, jumble, record, first)), reader(line, jumble, first).take_all(*record))

    def test_nothing_is_told_ahead_of_an_error(self):
        told = readings(SEEN[10], Jumble(1, 1), (("0",), ("1",), ("9",)))
        self.assertEqual(raised(next, told), ("Unfit", 2))
        self.assertEqual(raised(next, readings(SEEN[10], Jumble(1, 1), (("0",), ["1"]))), ("BadValue", "look"))
        self.assertEqual(list(readings(SEEN[10], Jumble(), ())), [])
        self.assertEqual(raised(next, readings(SEEN[10], Jumble(9, 9), ()))[0], "NotForced")

    def test_two_hundred_items(self):
        record = tuple((str(n % 10),) for n in range(200))
        self.assertEqual(list(readings(SEEN[10], Jumble(2, 2), record)), [(n, n) for n in range(200)])
        self.assertEqual(raised(next, readings(SEEN[10], Jumble(2, 2), record + (("0",),))), ("BadValue", "record"))
        self.assertEqual(list(readings(first=7, record=(("7",),), jumble=Jumble(), line=SEEN[10])), [(0, 7)])

    def test_the_example(self):
        self.assertEqual(list(readings(SEEN[10], Jumble(1, 1, apart=2), (None, ("1",), None, ("2",)))), [(0, 0), (1, 1), (2, 3), (3, 2)])


if __name__ == "__main__":
    unittest.main()
