"""Trees, worked out on lists of placings: what the document says, word by word."""

import itertools

from jumblepost.rows import Row
from jumblepost.views import Sight
from tests.small import cell_steps, painted_view


class Seen:
    """A sheet at a station, with the sides of its cells and panels at some placings."""

    def __init__(self, sheet, station, turned, placings):
        self.sheet, self.station, self.turned, self.placings = sheet, station, turned, placings
        self.sides = {}
        for places in placings:
            steps = [cell_steps(sheet, cell, places) for cell in sheet.cells]
            self.sides[places] = [(min(row), max(row) + 1) for row in steps]

    def comparison(self, kind, c, at):
        """The row of a comparison, None if there is none, and what it tells at each placing."""
        cell = self.sheet.cells[c]
        p = cell.panel + 1 + cell.end
        some = self.placings[0]
        s, t = (side - some[p] for side in self.sides[some][c])
        if kind in ("begins", "ends"):
            left, right = self.station.panes[at]
            if kind == "begins":
                return Row(0, p, s - left), lambda places: self.sides[places][c][0] >= left
            return Row(p, 0, right - t), lambda places: self.sides[places][c][1] <= right
        low, high = sorted((at + 1, at + 2), key=lambda point: some[point])
        if kind == "before":
            return None if low == p else Row(p, low, -t), lambda places: self.sides[places][c][1] <= places[low]
        return None if high == p else Row(high, p, s), lambda places: self.sides[places][c][0] >= places[high]

    def ask(self, kind, c, at, placings):
        """True or False if the comparison tells the same at all these placings, else its row."""
        row, tells = self.comparison(kind, c, at)
        told = {tells(places) for places in placings}
        return row if len(told) == 2 else told.pop()

    def open_of_cell(self, c, placings):
        """The first row of a cell that is open at these placings, None if there is none."""
        for pane in range(len(self.station.panes)):
            inside = True
            for kind in ("begins", "ends"):
                told = self.ask(kind, c, pane, placings)
                if isinstance(told, Row):
                    return told
                if not told:
                    inside = False
                    break
            if inside:
                return self.open_of_cover(c, placings)
        return None

    def open_of_cover(self, c, placings):
        """The same for the panels ahead of the cell."""
        for panel in itertools.takewhile(lambda e: e != self.sheet.cells[c].panel, self.sheet.ahead):
            free = False
            for kind in ("before", "behind"):
                told = self.ask(kind, c, panel, placings)
                if isinstance(told, Row):
                    return told
                if told:
                    free = True
                    break
            if not free:
                return None
        return None

    def open_row(self, placings, cells=None):
        """The first row that is open at these placings."""
        for c in cells or range(len(self.sheet.cells)):
            row = self.open_of_cell(c, placings)
            if row is not None:
                return row
        return None

    def view(self, places):
        return painted_view(self.sheet, self.station, places)

    def tree(self, placings, cells=None, low=True):
        """The nodes of the tree; with an order of cells, or with the last placing, another one."""
        if not placings:
            return []
        row = self.open_row(placings, cells)
        if row is None:
            places = tuple(min(column) for column in zip(*placings)) if low else placings[-1]
            return [Sight(self.view(places), places, self.turned)]
        parts = split(row, placings)
        return [row, *self.tree(parts[0], cells, low), *self.tree(parts[1], cells, low)]

    def rest(self, nodes, placings):
        """The nodes behind those that are right for a zone, None if they are not right."""
        if not nodes:
            return None
        node = nodes[0]
        if type(node) is Row:
            if max(node.one, node.other) > len(self.sheet.panels) + 1:
                return None
            parts = split(node, placings)
            if not parts[0] or not parts[1]:
                return None
            behind = self.rest(nodes[1:], parts[0])
            return None if behind is None else self.rest(behind, parts[1])
        if type(node) is not Sight or node.turned is not self.turned or type(node.places) is not tuple:
            return None
        if any(type(place) is not int for place in node.places) or node.places not in placings:
            return None
        if repr(node.view) != repr(self.view(node.places)) or self.open_row(placings) is not None:
            return None
        return nodes[1:]

    def is_right(self, tree):
        """Whether any value is a right tree."""
        if type(tree) is not tuple:
            return False
        if not self.placings:
            return tree == ()
        return self.rest(tree, self.placings) == ()


def split(row, placings):
    """The placings at which a row holds, and the others."""
    return [places for places in placings if row.holds(places)], [places for places in placings if not row.holds(places)]
