"""The examples of the document, word for word."""

import unittest

from tests.helpers import Examples

ROWS = '''
>>> from jumblepost.rows import Row
>>> row = Row(2, 1, 6)
>>> [str(row), str(~row), row.holds((0, 3, 9)), row.holds([0, 3, 10])]
['x2 - x1 <= 6', 'x1 - x2 <= -7', True, False]
>>> Row.read("x2 - x2 <= 0")
raises BadRow(1)
'''

ZONES = '''
>>> from jumblepost.zones import Zone
>>> zone = Zone(3, 10, [Row(2, 1, 6), Row(1, 2, -4)])
>>> [zone.gap(2, 1), zone.gap(1, 0), zone.lowest(), zone.highest(), Row(2, 1, 5) in zone, zone == zone & Row(1, 0, 6), len(list(zone.placings()))]
[6, 6, (0, 0, 4), (0, 6, 10), False, True, 18]
>>> shut = zone & Row(2, 0, 3)
>>> [bool(shut), sum([row.most for row in shut.ring().rows]), [str(row) for row in zone.chain(1, 0).rows]]
[False, -1, ['x1 - x2 <= -4', 'x2 - x0 <= 10']]
>>> shut.gap(1, 0)
raises NoPlacing(0)
'''

LYING = '''
>>> from jumblepost.lying import cell_places, view_at
>>> from jumblepost.sheets import Cell, Panel, Sheet
>>> from jumblepost.stations import Station
>>> sheet = Sheet((Panel(6, 7), Panel.firm(4)), (1, 0), (Cell(0, 0, 0, 2), Cell(0, 0, 2, 2), Cell(1, 1, 0, 2)))
>>> station = Station(10, ((1, 5),))
>>> [cell_places(sheet, (0, 1, 7, 3)), view_at(sheet, station, (0, 1, 7, 3)), cell_places(sheet, (0, 7, 1, 5), True)]
[((1, 3), (3, 5), (3, 5)), ((0, 2),), ((5, 7), (3, 5), (3, 5))]
>>> str(sheet)
'sheet 2 6 7 4 4 ahead 1 0 cells 3 0 0 0 2 0 0 2 2 1 1 0 2'
'''

class TestExamples(unittest.TestCase):
    """Each heading runs behind those whose names its examples use."""

    def test_rows_and_zones(self):
        examples = Examples(self)
        examples.run(ROWS)
        examples.run(ZONES)

    def test_lying(self):
        Examples(self).run(LYING)


if __name__ == "__main__":
    unittest.main()
