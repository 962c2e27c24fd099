"""Heads: whether a run that fits begins so, by a search; and closings, by the words of the document."""

import itertools

from tests.written import spread_of


def bounds(jumble):
    return (jumble.early, jumble.late) if spread_of(jumble.early, jumble.late) else (0, 0)


def lets_lost(lost, jumble):
    """Whether of any neighbouring numbers few enough are lost."""
    near = spread_of(jumble.early, jumble.late) + jumble.lost + 1
    return all(len([n for n in lost if low <= n < low + near]) <= jumble.lost for low in lost)


def all_near(letters, jumble):
    """Whether each letter of a whole row is near enough to its rank; behind the row all ascends."""
    early, late = bounds(jumble)
    for place, number in enumerate(letters):
        rank = sum(told < number for told in letters) + letters[:place].count(number)
        if not rank - early <= place <= rank + late:
            return False
    return True


def lets_copies(letters, jumble):
    return jumble.again or len(set(letters)) == len(letters)


def search(jumble, head):
    """Whether a run that fits begins with a head of numbers, by all ways to go on.

    Numbers above those of the head can all come behind it, ascending: none of them is less than one of the head.
    """
    if not lets_copies(head, jumble):
        return False
    end = max(head, default=-1) + 1
    absent = [number for number in range(end) if number not in head]
    for many in range(len(absent) + 1):
        for lost in itertools.combinations(absent, many):
            if lets_lost(lost, jumble):
                rest = [number for number in absent if number not in lost]
                if any(all_near([*head, *order], jumble) for order in itertools.permutations(rest)):
                    return True
    return False


def begins(jumble, head):
    """Whether a head, perhaps with Nones, begins a run that fits."""
    places = [place for place, item in enumerate(head) if item is None]
    if places and (jumble.apart == 0 or any(b - a < jumble.apart for a, b in zip(places, places[1:]))):
        return False
    known = [item for item in head if item is not None]
    for filling in itertools.permutations(range(max(known, default=0) + len(places) + 1), len(places)):
        rest = list(filling)
        row = [rest.pop(0) if item is None else item for item in head]
        if search(jumble, row):
            return True
    return False


def closing(jumble, head):
    """The numbers and the lost numbers of the closing, as [22] tells them."""
    if None in head:
        rest = [number for number in range(2 * len(head) + 1) if number not in head]
        return tuple(rest.pop(0) if item is None else item for item in head), ()
    early, late = bounds(jumble)
    order = sorted(head)
    w = order[len(head) - late - 1] if len(head) - late >= 1 else None
    lost = [] if w is None else [number for number in range(w) if number not in head]
    free = [number for number in range(max(head, default=0)) if number not in head and (w is None or number > w)]
    for m, q in sorted((number, place) for place, number in enumerate(head)):
        k = sum(told < m for told in head) + head[:q].count(m)
        while len([f for f in free if f < m and f not in lost]) > q + early - k:
            below = [f for f in free if f < m and f not in lost]
            if not below:
                return None
            lost.append(max(below))
    return tuple(head), tuple(sorted(lost))
