"""Ledgers: records that grow, with all their histories."""

from jumblepost.common import are_integers, is_between
from jumblepost.errors import BadRecord, BadValue, NoHistory, TooMany
from jumblepost.histories import Chart, chart_of, check_record, dead_place, is_item, numbers_among, open_at


class LedgerTable:
    """A paper: for each number of places of a record its states, with their two counts."""

    def __init__(self, jumble, looks, first, levels):
        self.jumble = jumble
        self.looks = looks
        self.first = first
        self.levels = levels

    def __eq__(self, other):
        return (isinstance(other, LedgerTable) and self.jumble == other.jumble and self.looks == other.looks
                and self.first == other.first and self.levels == other.levels)


class Second:
    """A paper: two histories of a record with unlike numbers at a place."""

    def __init__(self, jumble, looks, first, place, one, other):
        self.jumble = jumble
        self.looks = looks
        self.first = first
        self.place = place
        self.one = one
        self.other = other

    def __eq__(self, other):
        return (isinstance(other, Second) and self.jumble == other.jumble and self.looks == other.looks
                and self.first == other.first and self.place == other.place
                and self.one == other.one and self.other == other.other)


def table_by(chart, record):
    """The LedgerTable of a record that has this chart."""
    levels = tuple([
        tuple([(state, level[state], ways[state]) for state in sorted(level)])
        for level, ways in zip(chart.levels, chart.behinds())
    ])
    return LedgerTable(chart.jumble, record, chart.first, levels)


def ledger_table(line, jumble, record, first=0):
    """The LedgerTable of a record, also of one without a history."""
    check_record(line, jumble, record, first)
    return table_by(chart_of(line, jumble, record, first), record)


def rows_to(live, place):
    """For each state behind so many places that goes on to a history, a row that leads to it."""
    rows = {(): ()}
    for moves in live[:place]:
        found = {}
        # A list, as the name of the dict is given to the one that grows here.
        for state in list(rows):
            for number, behind in moves[state]:
                if behind not in found:
                    found[behind] = rows[state] + (number,)
        rows = found
    return rows


def history_with(live, place, number):
    """A history with this number, which some history has there, at a place."""
    row, state = min([
        (begin + (number,), behind) for ahead, begin in rows_to(live, place).items()
        for told, behind in live[place][ahead] if told == number
    ])
    for moves in live[place + 1:]:
        following, state = moves[state][0]
        row = row + (following,)
    return row


def is_row_of(chart, row):
    """Whether any value is a tuple of numbers that a chart lets stand at its places, one by one."""
    if not isinstance(row, tuple) or len(row) != len(chart.leads) or not are_integers(row):
        return False
    state = ()
    for number, moves in zip(row, chart.leads):
        # Where a number leads to a state, it leads to one alone.
        found = [behind for told, behind in moves[state] if told == number]
        if len(found) == 0:
            return False
        state = found[0]
    return True


class Ledger:
    """A record that grows, with all its histories."""

    MOST = 200

    def __init__(self, line, jumble, first=0):
        check_record(line, jumble, (), first)
        self.line = line
        self.jumble = jumble
        self.first = first
        self.begin = 0
        self.stand((), Chart(jumble, first))

    @classmethod
    def of(cls, line, jumble, record, first=0):
        """A ledger that has taken all items of a record."""
        check_record(line, jumble, record, first)
        chart = chart_of(line, jumble, record, first)
        place = dead_place(chart)
        if place is not None:
            raise NoHistory(place)
        ledger = cls(line, jumble, first)
        ledger.stand(record, chart)
        return ledger

    def __len__(self):
        return len(self.record)

    def __contains__(self, x):
        return is_row_of(self.chart, x)

    def stand(self, record, chart):
        """Comes to a record and its chart."""
        self.record = record
        self.chart = chart
        # A ledger is asked more often than it takes looks.
        self.live = chart.live_moves()
        self.numbers = numbers_among(self.live)
        self.ways = chart.total()
        self.settled = tuple([numbers[0] if len(numbers) == 1 else None for numbers in self.numbers])

    def beginnings(self):
        """The states that are possible ahead of all looks, ascending."""
        return ((),)

    def grown(self, record, chart, look):
        """The chart of this record, which has one item more than the one that this chart is of."""
        place = len(record)
        if place >= Ledger.MOST:
            raise TooMany("looks")
        if not is_item(self.line, self.jumble, record, look):
            raise BadRecord(place)
        chart = chart.longer(open_at(self.line, self.jumble, self.first, place, look))
        if chart.total() == 0:
            raise NoHistory(place)
        return chart

    def take(self, look):
        """Adds an item to the record."""
        self.take_all(look)

    def take_all(self, *looks):
        """Adds several items to the record, or none if one of them is refused."""
        record = self.record
        chart = self.chart
        for look in looks:
            chart = self.grown(record, chart, look)
            record = record + (look,)
        self.stand(record, chart)

    def possible(self, place):
        """The numbers that some history has at a place, ascending."""
        self.check_place(place)
        return self.numbers[place]

    def second(self, place):
        """A Second with two numbers of a place, None if the place is settled."""
        numbers = self.possible(place)
        if len(numbers) == 1:
            return None
        one = history_with(self.live, place, numbers[0])
        other = history_with(self.live, place, numbers[1])
        return Second(self.jumble, self.record, self.first, place, one, other)

    def check_place(self, place):
        """Raises the error for any value that is no place of an item."""
        if not is_between(place, 0, len(self.record) - 1):
            raise BadValue("place")

    def table(self):
        """The LedgerTable of the record."""
        return table_by(self.chart, self.record)
