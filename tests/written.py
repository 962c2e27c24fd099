"""Runs written out letter by letter, and looked at by the words of the document."""

import random

from jumblepost.runs import Run

AWAY = 1000


class Written:
    """The letters of a run from some place below its begin to some place far behind its head."""

    def __init__(self, run):
        self.low = max(0, run.begin - AWAY - 5)
        head = list(run.numbers)
        gone = set(head) | set(run.lost)
        rest = [number for number in range(run.begin, run.begin + 2 * AWAY + 500) if number not in gone]
        self.letters = list(range(self.low, run.begin)) + head + rest
        self.end = self.low + len(self.letters)

    def letter(self, place):
        return self.letters[place - self.low]

    def rank(self, place):
        """Below low all letters are less than any that is not at its own place."""
        number = self.letter(place)
        ahead = self.letters[:place - self.low]
        return self.low + sum(told < number for told in self.letters) + sum(told == number for told in ahead)

    def where(self, number):
        if number < self.low:
            return (number,)
        return tuple(self.low + at for at, told in enumerate(self.letters) if told == number)


def spread_of(early, late):
    return 0 if 0 in (early, late) else early + late


def faults(run, jumble, unread):
    """The faults of a run, by going through its letters."""
    told = Written(run)
    spread = spread_of(jumble.early, jumble.late)
    early, late = (jumble.early, jumble.late) if spread else (0, 0)
    found = []
    places = range(told.low, told.low + len(told.letters) - AWAY)
    head_end = run.begin + len(run.numbers) + 1000
    if not jumble.again:
        seen = set()
        for place in places:
            if told.letter(place) in seen:
                found.append(("again", place))
            seen.add(told.letter(place))
    for number in run.lost:
        near = [lost for lost in run.lost if number - spread - jumble.lost <= lost <= number]
        if len(near) > jumble.lost:
            found.append(("lost", number))
    ranks = ranks_of(told)
    for place in places:
        if place >= head_end:
            break
        if place < ranks[place - told.low] - early:
            found.append(("early", place))
        if place > ranks[place - told.low] + late:
            found.append(("late", place))
    for at, place in enumerate(unread):
        if jumble.apart == 0 or (at > 0 and place - unread[at - 1] < jumble.apart):
            found.append(("unread", place))
    return found


def ranks_of(told):
    """The ranks of all letters: their places when they are sorted, equal ones as they come."""
    order = sorted(range(len(told.letters)), key=lambda at: (told.letters[at], at))
    ranks = [0] * len(order)
    for rank, at in enumerate(order):
        ranks[at] = told.low + rank
    return ranks


def random_run(rand, begin=None, most=6):
    """A small run: near numbers, some of them lost, some again, some from ahead of the head."""
    if begin is None:
        begin = rand.choice((0, 0, 1, 3, 10, 998, 1000, 1500, 10 ** 59, 10 ** 60 - 1))
    many = rand.randint(0, most)
    kind = rand.random()
    if kind < 0.4:
        numbers = rand.sample(range(begin, begin + many), many)
    elif kind < 0.7:
        numbers = rand.sample(range(begin, begin + 2 * many), many)
    elif kind < 0.95:
        numbers = [rand.randint(max(0, begin - 4), begin + 5) for _ in range(many)]
    else:
        numbers = [rand.randint(max(0, begin - 999), begin + 999) for _ in range(many)]
    free = [number for number in range(begin, begin + 12) if number not in numbers] + [begin + 999]
    lost = [] if rand.random() < 0.4 else sorted({rand.choice(free) for _ in range(rand.randint(1, 4))} - set(numbers))
    return Run(begin, numbers, lost)


def random_runs(many, seed, **more):
    rand = random.Random(seed)
    return [random_run(rand, **more) for _ in range(many)]
