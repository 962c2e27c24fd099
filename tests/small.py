"""Small sheets and stations, and what is seen of them, worked out step by step."""

import itertools
import random

from jumblepost.errors import BadSheet
from jumblepost.rows import Row
from jumblepost.sheets import Cell, Panel, Sheet
from jumblepost.stations import Station


def random_sheet(rand, most_length=4, most_cells=4):
    """A small sheet of 1 to 4 panels."""
    panels = []
    for _ in range(rand.randint(1, 4)):
        least = rand.randint(1, most_length)
        panels.append(Panel(least, min(most_length, least + rand.choice((0, 0, 1, 2)))))
    ahead = rand.sample(range(len(panels)), len(panels))
    cells = []
    for _ in range(rand.randint(1, most_cells) * 4):
        cell = Cell(rand.randrange(len(panels)), rand.randint(0, 1), rand.randint(0, 3), rand.choice((1, 1, 2)))
        try:
            Sheet(panels, ahead, [*cells, cell])
        except BadSheet:
            continue
        cells = [*cells, cell][:most_cells]
    return Sheet(panels, ahead, cells or [Cell(0, 0, 0)])


def random_station(rand, sheet, most_width=6):
    """A small station; its rows name points that are there."""
    width = rand.randint(3, most_width)
    sides = sorted(rand.sample(range(width + 1), rand.choice((2, 2, 4)) if width > 3 else 2))
    panes = [(sides[k], sides[k + 1]) for k in range(0, len(sides), 2)]
    if width >= 5 and rand.random() < 0.2:
        panes = [(0, 1), (2, 3), (4, width)]
    rows = []
    for _ in range(rand.choice((0, 0, 1, 2))):
        one, other = rand.sample(range(len(sheet.panels) + 2), 2)
        rows.append(Row(one, other, rand.randint(-2, width)))
    return Station(width, panes, rows, rand.random() < 0.5)


def small_cases(many, seed, most_width=6):
    """Pairs of a small sheet and a small station."""
    rand = random.Random(seed)
    cases = []
    for _ in range(many):
        sheet = random_sheet(rand)
        cases.append((sheet, random_station(rand, sheet, most_width)))
    return cases


def ways(station):
    """The ways of lying at a station."""
    return (False, True) if station.either else (False,)


def lies_well(sheet, station, places, turned):
    """Whether places are a placing, by the words of the document."""
    for e, panel in enumerate(sheet.panels):
        length = places[e + 2] - places[e + 1]
        if (e in (1, 3)) != turned:
            length = -length
        if not panel.least <= length <= panel.most:
            return False
    return all(places[row.one] - places[row.other] <= row.most for row in station.rows)


def all_lying(sheet, station, turned):
    """All placings, by going through all tuples of places."""
    edges = itertools.product(range(station.width + 1), repeat=len(sheet.panels) + 1)
    return [(0, *told) for told in edges if lies_well(sheet, station, (0, *told), turned)]


def cell_steps(sheet, cell, places):
    """The steps that a cell fills at a placing."""
    here = places[cell.panel + 1 + cell.end]
    there = places[cell.panel + 2 - cell.end]
    near = range(cell.offset, cell.offset + cell.width)
    return [here + step if here < there else here - 1 - step for step in near]


def painted_view(sheet, station, places):
    """The view of a placing, as panels painted over one another show it."""
    top = {}
    for e in reversed(sheet.ahead):
        left, right = sorted((places[e + 1], places[e + 2]))
        top.update({step: e for step in range(left, right)})
    view = []
    for left, right in station.panes:
        read = []
        for c, cell in enumerate(sheet.cells):
            steps = cell_steps(sheet, cell, places)
            if all(left <= step < right and top[step] == cell.panel for step in steps):
                read.append((min(steps), c))
        view.append(tuple(c for _, c in sorted(read)))
    return tuple(view)
