"""Posts: records that are taken, and deeds that can be undone, done again and tried."""

from jumblepost.errors import BadValue, NothingKept, PostError
from jumblepost.unread import reader


def copied(teller):
    """A reader that has come to what another one has come to."""
    fresh = teller.anew()
    fresh.follow(teller)
    return fresh


class State:
    """What a post has come to: a rule, a record, the pairs that a reader tells of it, and this reader."""

    def __init__(self, jumble, looks, pairs, teller):
        self.jumble = jumble
        self.looks = looks
        self.pairs = pairs
        self.teller = teller

    def with_items(self, items):
        """The state with some items more."""
        teller = copied(self.teller)
        pairs = teller.take_all(*items)
        return State(self.jumble, self.looks + items, self.pairs + pairs, teller)

    def with_rule(self, jumble):
        """The state with another rule, by which the whole record is read anew."""
        teller = reader(self.teller.line, jumble, self.teller.first)
        looks = self.looks
        return State(jumble, looks, teller.take_all(*looks), teller)

    def after(self, deed):
        """The state behind a deed."""
        kind, what = deed
        return self.with_items(what) if kind == "take" else self.with_rule(what)


def is_deed(value):
    """Whether any value is a pair of "take" and a tuple, or of "change" and any value."""
    if not isinstance(value, tuple) or len(value) != 2 or not isinstance(value[0], str):
        return False
    return value[0] == "change" or (value[0] == "take" and isinstance(value[1], tuple))


class Post:
    """A record that is taken by a rule, and all that was done to both."""

    def __init__(self, line, jumble, first=0):
        teller = reader(line, jumble, first)
        self.line = line
        self.first = first
        # For each trial that is open what stood ahead of its beginning.
        self.trials = ()
        self.stand((), (State(jumble, (), (), teller),), (), ())

    def stand(self, deeds, states, undone, undone_states):
        """Comes to these deeds, with the states ahead of them and behind each, and undone deeds."""
        self.deeds = deeds
        self.states = states
        self.undone = undone
        self.undone_states = undone_states
        self.rule = states[-1].jumble
        self.record = states[-1].looks
        self.told = states[-1].pairs

    @property
    def open_trials(self):
        """How many trials are open."""
        return len(self.trials)

    @property
    def by_place(self):
        """For each place of the record its number, None if it is not told yet."""
        numbers = {place: number for place, number in self.told}
        return tuple([numbers.get(place) for place in range(len(self.record))])

    def take(self, look):
        """Takes one item, and returns the pairs (place, number) that are known by it."""
        return self.take_all(look)

    def take_all(self, *looks):
        """Takes some items as one deed, and returns the pairs (place, number) that are known by them."""
        many = len(self.told)
        self.do(("take", looks))
        return self.told[many:]

    def change(self, jumble):
        """Sets the rule."""
        self.do(("change", jumble))

    def do(self, *deeds):
        """Does some deeds one after the other, or none if one of them raises an error."""
        if not all([is_deed(deed) for deed in deeds]):
            raise BadValue("deeds")
        states = self.states
        for deed in deeds:
            states = (*states, states[-1].after(deed))
        if len(deeds) > 0:
            self.stand(self.deeds + deeds, states, (), ())

    def undo(self):
        """Undoes the last deed, and returns it."""
        kept = len(self.trials[-1][0]) if len(self.trials) > 0 else 0
        if len(self.deeds) == kept:
            raise NothingKept("undo")
        deed = self.deeds[-1]
        undone_states = (self.states[-1], *self.undone_states)
        self.stand(self.deeds[:-1], self.states[:-1], (deed, *self.undone), undone_states)
        return deed

    def redo(self):
        """Does the deed again that was undone last, and returns it."""
        if len(self.undone) == 0:
            raise NothingKept("redo")
        deed = self.undone[0]
        states = (*self.states, self.undone_states[0])
        self.stand((*self.deeds, deed), states, self.undone[1:], self.undone_states[1:])
        return deed

    def begin(self):
        """Begins a trial."""
        self.trials = (*self.trials, (self.deeds, self.states, self.undone, self.undone_states))
        self.stand(self.deeds, self.states, (), ())

    def keep(self):
        """Ends the trial that was begun last; what was done in it stands."""
        self.check_trial()
        self.trials = self.trials[:-1]

    def drop(self):
        """Ends the trial that was begun last; all is as it was ahead of it."""
        self.check_trial()
        deeds, states, undone, undone_states = self.trials[-1]
        self.trials = self.trials[:-1]
        self.stand(deeds, states, undone, undone_states)

    def check_trial(self):
        """Raises the error if no trial is open."""
        if len(self.trials) == 0:
            raise NothingKept("trial")


def tried(post, *looks):
    """The pairs told when these looks are taken up to the first that is refused, and its place or None."""
    if not isinstance(post, Post):
        raise BadValue("post")
    teller = copied(post.states[-1].teller)
    told = []
    for look in looks:
        try:
            pairs = teller.take(look)
        except PostError:
            return tuple(told), teller.places
        told.extend(pairs)
    return tuple(told), None
