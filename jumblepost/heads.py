"""Heads: which first letters begin a run that fits, and the closing that shows it."""

from jumblepost.common import is_number
from jumblepost.errors import BadValue
from jumblepost.jumbles import Jumble, bounds_of
from jumblepost.runs import MOST_AWAY, Run, fits

MOST_ITEMS = 40


def is_head(value, jumble):
    """Whether any value is a tuple of at most 40 numbers and, if the jumble lets it, Nones."""
    if not isinstance(value, tuple) or len(value) > MOST_ITEMS:
        return False
    lets_none = jumble.lost == 0 and not jumble.again
    return all([is_number(item) or (item is None and lets_none) for item in value])


def check_head(jumble, head):
    """Raises the errors for values that are no jumble and no head."""
    if not isinstance(jumble, Jumble):
        raise BadValue("jumble")
    if not is_head(head, jumble):
        raise BadValue("head")


def lost_free(letters, came, free, early):
    """Which of the free numbers the closing loses, ascending.

    letters are pairs (number, place), ascending, ahead of which so many lesser ones came.
    """
    left = list(free)
    for index, (number, place) in enumerate(letters):
        # The rank of a letter is at most this much above the letters that are known to be less.
        room = max(0, place + early - came - index)
        below = [told for told in left if told < number]
        left = below[:room] + left[len(below):]
    return [number for number in free if number not in left]


def lost_by(jumble, head):
    """The numbers that the closing of a head without Nones loses, ascending."""
    early, late = bounds_of(jumble)
    letters = sorted([(number, place) for place, number in enumerate(head)])
    came = {number: True for number in head}
    released = letters[:max(0, len(letters) - late)]
    begin = released[-1][0] if len(released) > 0 else 0
    missing = [number for number in range(begin) if number not in came]
    free = [number for number in range(begin, max([0, *head])) if number not in came]
    return missing + lost_free(letters, 0, free, early)


def filled_in(head):
    """The head with the least numbers that are not in it, ascending, at the places with None."""
    known = {item: True for item in head}
    numbers = []
    least = 0
    for item in head:
        if item is None:
            while least in known:
                least += 1
            numbers.append(least)
            least += 1
        else:
            numbers.append(item)
    return numbers


def closing(jumble, head):
    """The closing of a head if it fits, otherwise None: then no run that begins so fits."""
    unread = [place for place, item in enumerate(head) if item is None]
    # No jumble lets a number so great come so early, and a Run has none.
    if max([0] + [item for item in head if item is not None]) > MOST_AWAY:
        return None
    lost = lost_by(jumble, head) if len(unread) == 0 else []
    run = Run(0, filled_in(head), lost)
    return run if fits(run, jumble, unread) else None


def begun_run(jumble, head):
    """The closing of a head if it begins a run that fits the jumble, otherwise None."""
    check_head(jumble, head)
    return closing(jumble, head)


def head_end(jumble, head):
    """The least place up to which the items begin no run that fits, None if all of them begin one."""
    check_head(jumble, head)
    for place in range(len(head)):
        if closing(jumble, head[:place + 1]) is None:
            return place
    return None
