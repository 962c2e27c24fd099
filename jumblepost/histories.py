"""Histories: all rows of numbers that a record of looks leaves open."""

from jumblepost.common import are_integers, is_first, is_record
from jumblepost.errors import BadRecord, BadValue, TooMany
from jumblepost.looks import fittings_of, is_shaped, is_shown, shows
from jumblepost.twins import check_jumble

MOST_SPREAD = 12
MOST_STATES = 4000


def keeps_all(jumble):
    """Whether a jumble has no losses, and no numbers that come again."""
    return jumble.lost == 0 and not jumble.again


def check_rule(line, jumble):
    """Raises the errors for values that are no line and no jumble of this part."""
    check_jumble(line, jumble)
    if not keeps_all(jumble):
        raise BadValue("jumble")


def is_item(line, jumble, ahead, item):
    """Whether an item, any value, can stand behind the items of a record."""
    if item is not None:
        return is_shaped(line, item)
    # Unread letters lie at least so far apart; with 0 there is none.
    return jumble.apart > 0 and None not in ahead[max(0, len(ahead) - jumble.apart + 1):]


def wrong_item(line, jumble, record):
    """The place of the first item of a record that cannot stand there, None if all can."""
    for place, item in enumerate(record):
        if not is_item(line, jumble, record[:place], item):
            return place
    return None


def check_record(line, jumble, record, first):
    """Raises the errors that are due ahead of all that is asked of a record."""
    check_rule(line, jumble)
    if not is_record(record):
        raise BadValue("record")
    if not is_first(first):
        raise BadValue("first")
    if jumble.spread > MOST_SPREAD:
        raise TooMany("spread")
    place = wrong_item(line, jumble, record)
    if place is not None:
        raise BadRecord(place)


def near_numbers(jumble, first, place):
    """The numbers that are near enough to a place, ascending."""
    least = first + max(0, place - jumble.late)
    return list(range(least, first + place + jumble.early + 1))


def open_at(line, jumble, first, place, item):
    """The numbers near enough to a place of a record that can show its item, ascending."""
    numbers = near_numbers(jumble, first, place)
    if item is None:
        return numbers
    fittings = fittings_of(line, item)
    return [number for number in numbers if is_shown(line, fittings, number)]


def moves_at(jumble, first, place, numbers, state):
    """The pairs (number, state behind it) for each of some numbers that can come behind a state."""
    fresh = [number for number in numbers if number not in state]
    if place < jumble.late:
        return [(number, tuple(sorted(state + (number,)))) for number in fresh]
    # All numbers below this one have come, and behind this place it must have come, too.
    due = first + place - jumble.late
    if due in state:
        return [(number, tuple(sorted(state[1:] + (number,)))) for number in fresh]
    return [(due, state)] if due in fresh else []


class Chart:
    """The states behind each number of places of a record, and how rows of numbers lead to them.

    levels has for each number of places a dict that tells how many rows lead to each state, leads
    for each place a dict that tells for each state the pairs (number, state behind it).
    """

    def __init__(self, jumble, first, levels=(), leads=()):
        self.jumble = jumble
        self.first = first
        self.levels = ({(): 1}, *levels)
        self.leads = leads

    def longer(self, numbers):
        """The chart with one place more, at which one of these numbers comes."""
        place = len(self.leads)
        moves = {state: moves_at(self.jumble, self.first, place, numbers, state) for state in self.levels[-1]}
        level = {}
        for state, many in self.levels[-1].items():
            for _, behind in moves[state]:
                level[behind] = level.get(behind, 0) + many
        if len(level) + sum([len(ahead) for ahead in self.levels]) > MOST_STATES:
            raise TooMany("states")
        return Chart(self.jumble, self.first, (*self.levels[1:], level), (*self.leads, moves))

    def total(self):
        """How many rows keep the rules for all places."""
        return sum(list(self.levels[-1].values()))

    def behinds(self):
        """For each level a dict that tells in how many ways each state goes on to a history."""
        found = [{state: 1 for state in self.levels[-1]}]
        for moves in self.leads[::-1]:
            behind = found[-1]
            found.append({state: sum([behind[after] for _, after in moves[state]]) for state in moves})
        return found[::-1]

    def live_moves(self):
        """For each place a dict with, for each state that goes on to a history, the moves that do."""
        ways = self.behinds()
        return [
            {
                state: [move for move in moves[state] if ways[place + 1][move[1]] > 0]
                for state in moves if ways[place][state] > 0
            }
            for place, moves in enumerate(self.leads)
        ]


def numbers_among(live):
    """For each place the numbers that some history has there, ascending, by the moves that go on to one."""
    return tuple([
        tuple(sorted(set([number for moves in table.values() for number, _ in moves]))) for table in live
    ])


def chart_of(line, jumble, record, first):
    """The Chart of a record; raises if it has too many states."""
    chart = Chart(jumble, first)
    for place, item in enumerate(record):
        chart = chart.longer(open_at(line, jumble, first, place, item))
    return chart


def dead_place(chart):
    """The least place up to which a chart has no row, None if its record has a history."""
    empty = [place for place, level in enumerate(chart.levels[1:]) if len(level) == 0]
    return min(empty, default=None)


def count_histories(line, jumble, record, first=0):
    """The number of histories of a record."""
    check_record(line, jumble, record, first)
    return chart_of(line, jumble, record, first).total()


def possible_numbers(line, jumble, record, first=0):
    """For each place of a record the numbers that some history has there, ascending."""
    check_record(line, jumble, record, first)
    return numbers_among(chart_of(line, jumble, record, first).live_moves())


def walk_histories(line, jumble, record, first=0):
    """Yields all histories of a record, ascending."""
    check_record(line, jumble, record, first)
    live = chart_of(line, jumble, record, first).live_moves()
    waiting = [((), ())]
    while waiting:
        row, state = waiting.pop()
        if len(row) == len(record):
            yield row
        else:
            moves = live[len(row)].get(state, [])
            waiting.extend([(row + (number,), behind) for number, behind in moves[::-1]])


def dead_end(line, jumble, record, first=0):
    """The least place up to which a record has no history, None if it has one."""
    check_record(line, jumble, record, first)
    return dead_place(chart_of(line, jumble, record, first))


def is_history(line, jumble, record, history, first=0):
    """Whether history, any value, is a history of a record."""
    check_record(line, jumble, record, first)
    if not isinstance(history, tuple) or len(history) != len(record) or not are_integers(history):
        return False
    if len(set(history)) < len(history):
        return False
    for place, (number, item) in enumerate(zip(history, record)):
        if number not in near_numbers(jumble, first, place):
            return False
        if item is not None and not shows(line, number, item):
            return False
    return all([number in history for number in range(first, first + len(record) - jumble.late)])
