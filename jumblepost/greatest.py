"""Greatest rules: how much a jumble may let happen and still be forced."""

from jumblepost.common import is_between
from jumblepost.errors import BadValue
from jumblepost.forced import decide, decided, is_met
from jumblepost.jumbles import Jumble, most_apart
from jumblepost.looks import check_line
from jumblepost.spans import span
from jumblepost.twins import Twins, check_jumble

PARTS = ("early", "late", "lost")
MOST_FRONTIER = 8


class Greatest:
    """A paper, false without an amount: the greatest amount that is forced, and the Twins beyond it."""

    def __init__(self, amount, forced, beyond):
        self.amount = amount
        self.forced = forced
        self.beyond = beyond

    def __eq__(self, other):
        return (isinstance(other, Greatest) and self.amount == other.amount
                and self.forced == other.forced and self.beyond == other.beyond)

    def __bool__(self):
        return self.amount is not None


def check_part(part):
    """Raises the error for any value that is no part of a jumble."""
    if not isinstance(part, str) or part not in PARTS:
        raise BadValue("part")


def with_part(jumble, part, amount):
    """The jumble in which this part is amount; letters that are not read stay as far apart as its spread."""
    if not isinstance(jumble, Jumble):
        raise BadValue("jumble")
    check_part(part)
    if not is_between(amount, 0, Jumble.MOST):
        raise BadValue("amount")
    early = amount if part == "early" else jumble.early
    late = amount if part == "late" else jumble.late
    lost = amount if part == "lost" else jumble.lost
    apart = most_apart(early, late) if jumble.apart > 0 else 0
    return Jumble(early, late, lost, jumble.again, apart)


def greatest(line, jumble, part):
    """The Greatest of a part of a jumble for a line."""
    check_jumble(line, jumble)
    check_part(part)
    paper = decide(line, with_part(jumble, part, 0))
    if isinstance(paper, Twins):
        return Greatest(None, None, paper)
    table = paper.table
    rules = [with_part(jumble, part, amount) for amount in range(Jumble.MOST + 1)]
    amount = max([at for at, rule in enumerate(rules) if is_met(rule, table.span)])
    beyond = decided(line, rules[amount + 1], table) if amount < Jumble.MOST else None
    return Greatest(amount, decided(line, rules[amount], table), beyond)


def most_lost(early, late, again, least):
    """The jumble with the most losses that a span meets, in a list; an empty one if it meets none."""
    rules = [Jumble(early, late, lost, again) for lost in range(Jumble.MOST + 1)]
    return [rule for rule in rules if is_met(rule, least)][-1:]


def greatest_jumbles(early, late, least):
    """Jumbles that a span meets, such that all others of this early and late are within one of them."""
    unread = Jumble(early, late, 0, False, most_apart(early, late))
    found = [unread] if is_met(unread, least) else []
    return found + most_lost(early, late, False, least) + most_lost(early, late, True, least)


def jumble_order(jumble):
    """What jumbles ascend by."""
    return jumble.early, jumble.late, jumble.lost, jumble.again, jumble.apart


def frontier(line, most=6):
    """Yields the jumbles that are forced with a line and within no other one that is, ascending."""
    check_line(line)
    if not is_between(most, 0, MOST_FRONTIER):
        raise BadValue("most")
    least = span(line)
    pairs = [(0, 0)] + [(early, late) for early in range(1, most + 1) for late in range(1, most + 1)]
    found = [jumble for early, late in pairs for jumble in greatest_jumbles(early, late, least)]
    for jumble in sorted(found, key=jumble_order):
        if len([other for other in found if jumble.within(other)]) == 1:
            yield jumble
