"""The errors of the package. Each keeps its fields as attributes of their names."""


class PostError(ValueError):
    """The base of all errors of the package; it is made with any values, or with none."""

    def __init__(self, *told):
        # By LANGUAGE.md an error without an __init__ takes strings alone. There is no field to keep.
        pass


class BadValue(PostError):
    """An argument is of another kind or beyond its bounds."""

    def __init__(self, what):
        self.what = what


class BadRow(PostError):
    """A part of a row, or a row of a zone, is wrong."""

    def __init__(self, index):
        self.index = index


class BadSheet(PostError):
    """A cell does not lie on its sheet as it must."""

    def __init__(self, what, index):
        self.what = what
        self.index = index


class BadStation(PostError):
    """A pane, a row or a way of lying does not go with a station."""

    def __init__(self, what, index):
        self.what = what
        self.index = index


class BadStamp(PostError):
    """A part of a wheel or of a stamp is wrong."""

    def __init__(self, what, index):
        self.what = what
        self.index = index


class BadLine(PostError):
    """The parts of a line do not go together."""

    def __init__(self, what):
        self.what = what


class NoPlacing(PostError):
    """There is no placing, of a zone or in a station."""

    def __init__(self, station):
        self.station = station


class TooMany(PostError):
    """There is more of something than the package goes through."""

    def __init__(self, what):
        self.what = what


class BadRun(PostError):
    """A number of a run is wrong."""

    def __init__(self, what, index):
        self.what = what
        self.index = index


class NotForced(PostError):
    """What is seen does not force the numbers; the paper shows it."""

    def __init__(self, paper):
        self.paper = paper


class Unfit(PostError):
    """No run that fits has this look at this place."""

    def __init__(self, place):
        self.place = place


class BadRecord(PostError):
    """An item of a record cannot stand at its place."""

    def __init__(self, place):
        self.place = place


class NoHistory(PostError):
    """From this place on no history is left."""

    def __init__(self, place):
        self.place = place


class NothingKept(PostError):
    """There is nothing to undo, to do again or to end."""

    def __init__(self, what):
        self.what = what


class BadText(PostError):
    """A word of a text cannot stand where it stands, or is missing."""

    def __init__(self, at, word):
        self.at = at
        self.word = word


class BadAsk(PostError):
    """A row that a desk is asked cannot be answered."""

    def __init__(self, at, word):
        self.at = at
        self.word = word


class BadShelf(PostError):
    """A row of a shelf is wrong."""

    def __init__(self, what, index):
        self.what = what
        self.index = index


class NoName(PostError):
    """There is nothing of this name."""

    def __init__(self, name):
        self.name = name
