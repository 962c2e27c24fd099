"""One unread letter: whether a line is forced if one letter, at any place, is not read."""

from jumblepost.met import MetForced, alikes_from, check_met, met_by, near_table, shared_ahead
from jumblepost.residues import open_residues
from jumblepost.steady import SteadyRun, front_of


class OnceTwins:
    """A paper: two steady runs that part at an unread letter and look alike behind it."""

    def __init__(self, early, late, unread, one, other, alikes):
        self.early = early
        self.late = late
        self.unread = unread
        self.one = one
        self.other = other
        self.alikes = alikes

    def __eq__(self, other):
        return (isinstance(other, OnceTwins) and self.early == other.early and self.late == other.late
                and self.unread == other.unread and self.one == other.one and self.other == other.other
                and self.alikes == other.alikes)


def run_ending(early, late, place, shared, residue):
    """The steady run that has these residues ahead of a place, the number of one of them last."""
    final = [number for number in front_of(early, late, place) if number % (early + late) == residue]
    return SteadyRun(early, late, place, tuple(sorted([*shared, residue])), final[0])


def once_twins(line, early, late, apart):
    """The OnceTwins of a line with two open residues."""
    # The greatest number of the front has the first one, so that all others may come ahead of it.
    place = late + (apart[0] - late - early + 1) % (early + late)
    shared = shared_ahead(early, late, place, apart)
    one = run_ending(early, late, place, shared, apart[0])
    other = run_ending(early, late, place, shared, apart[1])
    return OnceTwins(early, late, place - 1, one, other, alikes_from(line, one, other, place))


def one_unread(line, early, late):
    """A MetForced if runs with at most one unread letter are forced, otherwise a OnceTwins."""
    check_met(line, early, late, None)
    paper = met_by(line, early, late, late, near_table(line, early, late))
    if isinstance(paper, MetForced):
        return paper
    return once_twins(line, early, late, open_residues(line, early + late)[:2])
