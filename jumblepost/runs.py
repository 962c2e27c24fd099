"""Runs: endless rows of letters, and what keeps them from fitting a jumble."""

from jumblepost.common import MOST_NUMBER, Words, is_between, is_number, is_series
from jumblepost.errors import BadRun, BadValue
from jumblepost.jumbles import Jumble, bounds_of

MOST_HEAD = 200
MOST_LOST = 1000
MOST_AWAY = 999
MOST_STRETCH = 1000
MOST_UNREAD = 200


def check_run(begin, numbers, lost):
    """Raises the first error that is due for the parts of a run."""
    if not is_number(begin):
        raise BadValue("begin")
    if not is_series(numbers) or len(numbers) > MOST_HEAD:
        raise BadValue("numbers")
    if not is_series(lost) or len(lost) > MOST_LOST:
        raise BadValue("lost")
    for index, number in enumerate(numbers):
        if not is_between(number, max(0, begin - MOST_AWAY), begin + MOST_AWAY):
            raise BadRun("numbers", index)
    least = begin
    for index, number in enumerate(lost):
        if not is_between(number, least, begin + MOST_AWAY) or number in numbers:
            raise BadRun("lost", index)
        least = number + 1


def read_integers(words, least, most, many):
    """The integers that the next words tell: one at least, at most so many."""
    found = [words.integer(least, most)]
    while len(found) < many and words.coming() not in (None, "lost"):
        found.append(words.integer(least, most))
    return found


def run_words(run):
    """The words and integers of the text of a run."""
    numbers = ["numbers", *run.numbers] if len(run.numbers) > 0 else []
    lost = ["lost", *run.lost] if len(run.lost) > 0 else []
    return ["begin", run.begin] + numbers + lost


def number_there(run, place):
    """The number at a place of a run, however many digits the place has."""
    if place < run.begin:
        return place
    at = place - run.begin
    if at < len(run.numbers):
        return run.numbers[at]
    number = place - len(run.numbers)
    for gone in run.gone:
        if gone > number:
            break
        number += 1
    return number


def many_behind(run, number):
    """How many letters behind the head have numbers below this one."""
    return max(0, number - run.begin - len([gone for gone in run.gone if gone < number]))


def rank_there(run, place):
    """The rank of the letter at a place of a run."""
    number = number_there(run, place)
    lesser = len([told for told in run.numbers if told < number])
    rank = min(number, run.begin) + lesser + many_behind(run, number)
    if place < run.begin:
        return rank
    ahead = run.numbers[:place - run.begin]
    return rank + ahead.count(number) + (1 if number < run.begin else 0)


class Run:
    """Places below begin with their own numbers, the numbers of the head, and all others, ascending."""

    def __init__(self, begin, numbers=(), lost=()):
        check_run(begin, numbers, lost)
        self.begin = begin
        self.numbers = tuple(numbers)
        self.lost = tuple(lost)
        # The numbers from begin on that do not come behind the head.
        self.gone = tuple(sorted(set([number for number in [*numbers, *lost] if number >= begin])))

    def __eq__(self, other):
        return (isinstance(other, Run) and self.begin == other.begin
                and self.numbers == other.numbers and self.lost == other.lost)

    def __str__(self):
        return " ".join([str(word) for word in run_words(self)])

    def letter(self, place):
        """The number at a place."""
        if not is_number(place):
            raise BadValue("place")
        return number_there(self, place)

    def rank(self, place):
        """The rank of the letter at a place."""
        if not is_number(place):
            raise BadValue("place")
        return rank_there(self, place)

    def where(self, number):
        """The places of a number, ascending."""
        if not is_number(number):
            raise BadValue("number")
        places = [self.begin + at for at, told in enumerate(self.numbers) if told == number]
        if number < self.begin:
            return (number, *places)
        if number in self.gone:
            return tuple(places)
        return (self.begin + len(self.numbers) + many_behind(self, number),)

    def stretch(self, place, many):
        """The numbers at so many places from a place on."""
        if not is_number(place):
            raise BadValue("place")
        if not is_between(many, 0, MOST_STRETCH):
            raise BadValue("many")
        return tuple([number_there(self, there) for there in range(place, place + many)])

    @classmethod
    def read(cls, text):
        """The run whose text this is."""
        words = Words(text)
        words.skip("begin")
        begin = words.integer(0, MOST_NUMBER)
        most = begin + MOST_AWAY
        numbers = []
        if words.comes("numbers"):
            numbers = read_integers(words, max(0, begin - MOST_AWAY), most, MOST_HEAD)
        lost = read_integers(words, begin, most, MOST_LOST) if words.comes("lost") else []
        words.finish()
        return cls(begin, numbers, lost)


def check_fault(run, jumble, unread):
    """Raises the errors for values that are no run, no jumble and no unread places."""
    if not isinstance(run, Run):
        raise BadValue("run")
    if not isinstance(jumble, Jumble):
        raise BadValue("jumble")
    if not is_series(unread) or not are_unread(unread):
        raise BadValue("unread")


def are_unread(values):
    """Whether the items of a list or a tuple are at most 200 ascending numbers."""
    if len(values) > MOST_UNREAD or not all([is_number(place) for place in values]):
        return False
    return all([place < behind for place, behind in zip(values, values[1:])])


def places_again(run):
    """The places of the head whose numbers are ahead of them, too."""
    return [
        run.begin + at for at, number in enumerate(run.numbers)
        if number < run.begin or number in run.numbers[:at]
    ]


def lost_too_near(lost, jumble):
    """Of ascending lost numbers those with which too many neighbours below them are lost."""
    reach = jumble.spread + jumble.lost
    return [
        number for at, number in enumerate(lost)
        if at >= jumble.lost and number - lost[at - jumble.lost] <= reach
    ]


def places_moved(run):
    """The range of the places whose letters can be away from their ranks.

    Ahead of it and behind it all lesser numbers that come are ahead of each letter.
    """
    if len(run.numbers) == 0:
        return []
    first = min(run.begin, min(run.numbers) + 1)
    end = run.begin + len(run.numbers) + many_behind(run, max(run.numbers))
    return list(range(first, end))


def unread_too_near(unread, apart):
    """The unread places that are too near to the one ahead: all of them if apart is 0."""
    if apart == 0:
        return list(unread)
    return [place for ahead, place in zip(unread, unread[1:]) if place - ahead < apart]


def faults(run, jumble, unread=()):
    """Yields what keeps a run with these unread places from fitting a jumble."""
    check_fault(run, jumble, unread)
    if not jumble.again:
        for place in places_again(run):
            yield "again", place
    for number in lost_too_near(run.lost, jumble):
        yield "lost", number
    early, late = bounds_of(jumble)
    for place in places_moved(run):
        rank = rank_there(run, place)
        if place < rank - early:
            yield "early", place
        elif place > rank + late:
            yield "late", place
    for place in unread_too_near(unread, jumble.apart):
        yield "unread", place


def fits(run, jumble, unread=()):
    """Whether a run with these unread places fits a jumble."""
    for _ in faults(run, jumble, unread):
        return False
    return True
