"""Looks at placings, rings and chains of zones, row by row."""

from jumblepost.common import are_integers
from jumblepost.errors import BadValue
from jumblepost.rows import Row
from jumblepost.zones import Chain, Ring, Zone, walls_of


def known_rows(zone):
    """A dict with the points and the most of each row and each wall of a zone."""
    rows = zone.rows + walls_of(zone.points, zone.width)
    return {(row.one, row.other, row.most): True for row in rows}


def links_up(rows, zone):
    """Whether any value is a tuple of rows and walls of the zone that form a chain."""
    if not isinstance(rows, tuple) or len(rows) == 0:
        return False
    if not all([isinstance(row, Row) for row in rows]):
        return False
    known = known_rows(zone)
    if not all([(row.one, row.other, row.most) in known for row in rows]):
        return False
    return all([row.other == behind.one for row, behind in zip(rows, rows[1:])])


def sum_of(rows):
    """The sum of the mosts of rows."""
    return sum([row.most for row in rows])


def look_placing(places, zone):
    """Whether places is a placing of the zone."""
    if not isinstance(zone, Zone):
        raise BadValue("zone")
    if not isinstance(places, tuple) or len(places) != zone.points or not are_integers(places):
        return False
    if places[0] != 0 or not all([0 <= place <= zone.width for place in places]):
        return False
    return all([row.holds(places) for row in zone.rows])


def look_ring(ring, zone):
    """Whether ring is a Ring of the zone with a sum below 0."""
    if not isinstance(zone, Zone):
        raise BadValue("zone")
    if not isinstance(ring, Ring) or not links_up(ring.rows, zone):
        return False
    return ring.rows[0].one == ring.rows[-1].other and sum_of(ring.rows) < 0


def look_chain(chain, zone, row):
    """Whether chain is a Chain of the zone that shows that the row holds at every placing."""
    if not isinstance(zone, Zone):
        raise BadValue("zone")
    if not isinstance(row, Row):
        raise BadValue("row")
    if not isinstance(chain, Chain) or not links_up(chain.rows, zone):
        return False
    if chain.rows[0].one != row.one or chain.rows[-1].other != row.other:
        return False
    return sum_of(chain.rows) <= row.most
