"""Looks at ledger tables and at second histories, row by row."""

from jumblepost.common import is_between, is_first, is_integer, is_number, is_record
from jumblepost.histories import MOST_SPREAD, is_history, keeps_all, moves_at, open_at, wrong_item
from jumblepost.jumbles import Jumble
from jumblepost.ledger import LedgerTable, Second
from jumblepost.looks import check_line


def has_record(paper, line):
    """Whether the jumble, the looks and the first number of a paper are a record of the line."""
    jumble = paper.jumble
    if not isinstance(jumble, Jumble) or not keeps_all(jumble) or jumble.spread > MOST_SPREAD:
        return False
    if not is_record(paper.looks) or not is_first(paper.first):
        return False
    return wrong_item(line, jumble, paper.looks) is None


def is_triple(value):
    """Whether any value is a triple of a tuple of numbers and two counts."""
    if not isinstance(value, tuple) or len(value) != 3:
        return False
    state, ahead, behind = value
    if not isinstance(state, tuple) or not all([is_number(number) for number in state]):
        return False
    return is_integer(ahead) and ahead > 0 and is_integer(behind) and behind >= 0


def is_level(value):
    """Whether any value is a tuple of triples, ascending by state."""
    if not isinstance(value, tuple) or not all([is_triple(triple) for triple in value]):
        return False
    return all([triple[0] < behind[0] for triple, behind in zip(value, value[1:])])


def are_levels(value, many):
    """Whether any value is a tuple of so many levels, the first and the last one of which are right."""
    if not isinstance(value, tuple) or len(value) != many or not all([is_level(level) for level in value]):
        return False
    if len(value[0]) != 1 or value[0][0][:2] != ((), 1):
        return False
    return all([behind == 1 for _, _, behind in value[-1]])


def leads_on(paper, line, place):
    """Whether the level behind a place is just what the one ahead of it leads to, with right counts."""
    numbers = open_at(line, paper.jumble, paper.first, place, paper.looks[place])
    behinds = {state: behind for state, _, behind in paper.levels[place + 1]}
    aheads = {}
    for state, ahead, behind in paper.levels[place]:
        left = behind
        for _, after in moves_at(paper.jumble, paper.first, place, numbers, state):
            if after not in behinds:
                return False
            aheads[after] = aheads.get(after, 0) + ahead
            left -= behinds[after]
        if left != 0:
            return False
    return aheads == {state: ahead for state, ahead, _ in paper.levels[place + 1]}


def look_ledger(paper, line):
    """Whether paper is the LedgerTable of a record of the line."""
    check_line(line)
    if not isinstance(paper, LedgerTable) or not has_record(paper, line):
        return False
    if not are_levels(paper.levels, len(paper.looks) + 1):
        return False
    for place in range(len(paper.looks)):
        if not leads_on(paper, line, place):
            return False
    return True


def look_second(paper, line):
    """Whether paper is a Second of two histories with unlike numbers at its place."""
    check_line(line)
    if not isinstance(paper, Second) or not has_record(paper, line):
        return False
    if not is_between(paper.place, 0, len(paper.looks) - 1):
        return False
    for row in (paper.one, paper.other):
        if not is_history(line, paper.jumble, paper.looks, row, paper.first):
            return False
    return paper.one[paper.place] < paper.other[paper.place]
