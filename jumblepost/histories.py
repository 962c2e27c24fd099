"""Histories: all rows of numbers that a record of looks leaves open."""

from jumblepost.common import are_integers, is_first, is_record
from jumblepost.errors import BadRecord, BadValue, TooMany
from jumblepost.looks import fittings_of, is_shaped, is_shown, shows
from jumblepost.twins import check_jumble

MOST_SPREAD = 12
MOST_STATES = 4000


def check_rule(line, jumble):
    """Raises the errors for values that are no line and no jumble of this part."""
    check_jumble(line, jumble)
    if jumble.lost > 0 or jumble.again:
        raise BadValue("jumble")


def lets_none(jumble, places, place):
    """Whether a letter may be unread behind others that are at these places."""
    return jumble.apart > 0 and (len(places) == 0 or place - places[-1] >= jumble.apart)


def check_items(line, jumble, record):
    """Raises the error for the first item of a record that cannot stand at its place."""
    unread = []
    for place, item in enumerate(record):
        if item is None:
            if not lets_none(jumble, unread, place):
                raise BadRecord(place)
            unread.append(place)
        elif not is_shaped(line, item):
            raise BadRecord(place)


def check_record(line, jumble, record, first):
    """Raises the errors that are due ahead of all that is asked of a record."""
    check_rule(line, jumble)
    if not is_record(record):
        raise BadValue("record")
    if not is_first(first):
        raise BadValue("first")
    if jumble.spread > MOST_SPREAD:
        raise TooMany("spread")
    check_items(line, jumble, record)


def near_numbers(jumble, first, place):
    """The numbers that are near enough to a place, ascending."""
    least = first + max(0, place - jumble.late)
    return list(range(least, first + place + jumble.early + 1))


def open_numbers(line, jumble, record, first):
    """For each place of a record the numbers near enough to it that can show its look, ascending."""
    found = []
    for place, item in enumerate(record):
        numbers = near_numbers(jumble, first, place)
        if item is not None:
            fittings = fittings_of(line, item)
            numbers = [number for number in numbers if is_shown(line, fittings, number)]
        found.append(numbers)
    return found


def moves_at(jumble, first, place, numbers, state):
    """The pairs (number, state behind it) for each of some numbers that can come behind a state."""
    fresh = [number for number in numbers if number not in state]
    if place < jumble.late:
        return [(number, tuple(sorted(state + (number,)))) for number in fresh]
    # All numbers below this one have come, and behind this place it must have come, too.
    due = first + place - jumble.late
    if due in state:
        return [(number, tuple(sorted(state[1:] + (number,)))) for number in fresh]
    return [(due, state)] if due in fresh else []


class Chart:
    """The states behind each number of places of a record, and how many rows lead to each of them."""

    def __init__(self, line, jumble, record, first):
        self.jumble = jumble
        self.first = first
        self.numbers = open_numbers(line, jumble, record, first)
        self.levels = [{(): 1}]
        room = MOST_STATES - 1
        for place in range(len(record)):
            level = self.level_behind(place, room)
            room -= len(level)
            self.levels.append(level)

    def moves(self, place, state):
        """The pairs (number, state behind it) for each number that can come at a place."""
        return moves_at(self.jumble, self.first, place, self.numbers[place], state)

    def level_behind(self, place, most):
        """The states behind a place; raises if there are more than so many."""
        level = {}
        for state, many in self.levels[place].items():
            for _, behind in self.moves(place, state):
                level[behind] = level.get(behind, 0) + many
            if len(level) > most:
                raise TooMany("states")
        return level

    def behinds(self):
        """For each level a dict that tells in how many ways each state goes on to a history."""
        found = [{state: 1 for state in self.levels[-1]}]
        for place in range(len(self.levels) - 2, -1, -1):
            behind = found[-1]
            found.append({
                state: sum([behind[after] for _, after in self.moves(place, state)])
                for state in self.levels[place]
            })
        return found[::-1]

    def live_moves(self):
        """For each place a dict with, for each state that goes on to a history, the moves that do."""
        ways = self.behinds()
        return [
            {
                state: [move for move in self.moves(place, state) if ways[place + 1][move[1]] > 0]
                for state in self.levels[place] if ways[place][state] > 0
            }
            for place in range(len(self.numbers))
        ]


def count_histories(line, jumble, record, first=0):
    """The number of histories of a record."""
    check_record(line, jumble, record, first)
    return sum(list(Chart(line, jumble, record, first).levels[-1].values()))


def possible_numbers(line, jumble, record, first=0):
    """For each place of a record the numbers that some history has there, ascending."""
    check_record(line, jumble, record, first)
    return tuple([
        tuple(sorted(set([number for moves in table.values() for number, _ in moves])))
        for table in Chart(line, jumble, record, first).live_moves()
    ])


def walk_histories(line, jumble, record, first=0):
    """Yields all histories of a record, ascending."""
    check_record(line, jumble, record, first)
    live = Chart(line, jumble, record, first).live_moves()
    waiting = [((), ())]
    while waiting:
        row, state = waiting.pop()
        if len(row) == len(record):
            yield row
        else:
            moves = live[len(row)].get(state, [])
            waiting.extend([(row + (number,), behind) for number, behind in moves[::-1]])


def dead_end(line, jumble, record, first=0):
    """The least place up to which a record has no history, None if it has one."""
    check_record(line, jumble, record, first)
    empty = [place for place, level in enumerate(Chart(line, jumble, record, first).levels) if len(level) == 0]
    return empty[0] - 1 if len(empty) > 0 else None


def is_history(line, jumble, record, history, first=0):
    """Whether history, any value, is a history of a record."""
    check_record(line, jumble, record, first)
    if not isinstance(history, tuple) or len(history) != len(record) or not are_integers(history):
        return False
    if len(set(history)) < len(history):
        return False
    for place, (number, item) in enumerate(zip(history, record)):
        if number not in near_numbers(jumble, first, place):
            return False
        if item is not None and not shows(line, number, item):
            return False
    return all([number in history for number in range(first, first + len(record) - jumble.late)])
