"""Runs that fit a jumble, drawn letter by letter, and what a reader must know of them."""

from tests.beginnings import bounds, spread_of


def drawn_row(rand, jumble, many):
    """So many letters, and some more, of a run that fits, as it would stand in ascending order."""
    near = spread_of(jumble.early, jumble.late) + jumble.lost + 1
    row, lost = [], []
    number = 0
    eager = rand.choice((0.1, 0.5, 1))
    while len(row) < many + 50:
        if len([n for n in lost if n > number - near]) < jumble.lost and rand.random() < eager:
            lost.append(number)
        else:
            row += [number] * (rand.choice((1, 1, 1, 2, 3)) if jumble.again else 1)
        number += 1
    return row


def drawn_run(rand, jumble, many):
    """The first letters of a run that fits: each is taken from those whose places may be here."""
    early, late = bounds(jumble)
    row = drawn_row(rand, jumble, many)
    kind = rand.choice(("any", "early", "late"))
    left = list(range(len(row)))
    letters = []
    for place in range(many):
        can = [rank for rank in left[:early + late + 1] if rank <= place + early]
        if left[0] + late == place:
            rank = left[0]
        else:
            rank = {"any": rand.choice(can), "early": can[-1], "late": can[-1] if rand.random() < 0.5 else rand.choice(can)}[kind]
        left.remove(rank)
        letters.append(row[rank])
    return letters


def drawn_unread(rand, jumble, many):
    """Unread places as near as they may be, or farther apart."""
    if jumble.apart == 0:
        return []
    places = []
    place = rand.randrange(jumble.apart + 2)
    while place < many:
        places.append(place)
        place += jumble.apart + (0 if rand.random() < 0.7 else rand.randrange(4))
    return places


class Known:
    """What a reader knows behind some letters, by the words of [21]."""

    def __init__(self, jumble, first, letters):
        early, late = bounds(jumble)
        many = len(letters)
        order = sorted(letters)
        released = order[:max(0, many - late)]
        self.held = tuple(order[len(released):])
        self.last = released[-1] if released else None
        self.missing = tuple(n for n in range(first, self.last) if n not in letters) if released else ()
        wide = min(many, late) + early + jumble.lost
        if self.last is None:
            self.window = (first, first + wide)
        else:
            self.window = (self.last if jumble.again else self.last + 1, self.last + 1 + wide)
        self.waiting = None
        self.places = many


class KnownUnread:
    """The same for a reader of letters of which some are unread; told are the numbers told so far."""

    def __init__(self, jumble, first, many, told, unread):
        early, late = bounds(jumble)
        numbers = sorted(told.values())
        free = first
        while free in numbers:
            free += 1
        end = min(free, first + many - late)
        self.last = end - 1 if end > first else None
        self.held = tuple(n for n in numbers if n >= max(end, first))
        self.missing = ()
        self.window = (first + max(0, many - late), first + many + early)
        waiting = [place for place in unread if place < many and place not in told]
        self.waiting = waiting[0] if waiting else None
        self.places = many


def told_at(jumble, place):
    """The place of the letter with which an unread one is told."""
    return place + max(0, spread_of(jumble.early, jumble.late) - 1)
