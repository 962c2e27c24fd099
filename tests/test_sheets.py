"""Panels, cells and sheets: bounds, faults in their order, and texts."""

import itertools
import unittest

from jumblepost.sheets import Cell, Panel, Sheet
from tests.helpers import changed_texts, is_integer_word, odd_values, raised, wrong_word

FOLDED = "sheet 2 6 7 4 4 ahead 1 0 cells 3 0 0 0 2 0 0 2 2 1 1 0 2"


def follows(words, word):
    """Whether a word can stand behind others in the text of a sheet."""
    if not words:
        return word == "sheet"
    if len(words) == 1:
        return is_integer_word(word, 1, 4)
    panels, at = int(words[1]), len(words) - 2
    if at < 2 * panels:
        return is_integer_word(word, 1 if at % 2 == 0 else int(words[-1]), 60)
    at -= 2 * panels
    if at == 0:
        return word == "ahead"
    if at <= panels:
        return is_integer_word(word, 0, panels - 1) and word not in words[3 + 2 * panels:]
    at -= panels + 1
    if at == 0:
        return word == "cells"
    if at == 1:
        return is_integer_word(word, 1, 12)
    at -= 2
    if at >= 4 * int(words[4 + 3 * panels]):
        return False
    return is_integer_word(word, *((0, 3), (0, 1), (0, 60), (1, 9))[at % 4])


def whole(words):
    """Whether words that can stand are the text of a sheet, whatever Sheet raises then."""
    if len(words) < 2:
        return False
    head = 5 + 3 * int(words[1])
    return len(words) >= head and len(words) == head + 4 * int(words[head - 1])


def overlap(one, other, length):
    """Whether two cells of a panel of this length overlap, step by step."""
    steps = []
    for cell in (one, other):
        near = range(cell.offset, cell.offset + cell.width)
        steps.append({step if cell.end == 0 else length - 1 - step for step in near})
    return bool(steps[0] & steps[1])


class TestPanel(unittest.TestCase):

    def test_bounds(self):
        for least, most in ((1, 1), (1, 60), (60, 60), (5, 9)):
            panel = Panel(least, most)
            self.assertEqual((panel.least, panel.most, panel.slack), (least, most, most - least))
            self.assertEqual(panel, Panel(most=most, least=least))
        for value in [0, 61, *odd_values()]:
            self.assertEqual(raised(Panel, value, 60), ("BadValue", "least"))
            self.assertEqual(raised(Panel, value, value), ("BadValue", "least"))
            self.assertEqual(raised(Panel, 1, value), ("BadValue", "most"))
            self.assertEqual(raised(Panel.firm, value), ("BadValue", "least"))
        self.assertEqual(raised(Panel, 5, 4), ("BadValue", "most"))

    def test_firm_and_equality(self):
        for length in (1, 4, 60):
            self.assertEqual(Panel.firm(length), Panel(length, length))
            self.assertEqual(Panel.firm(length=length).slack, 0)
        self.assertNotEqual(Panel(1, 2), Panel(1, 3))
        self.assertNotEqual(Panel(1, 3), Panel(2, 3))
        for value in odd_values():
            self.assertIs(Panel(1, 2) == value, isinstance(value, Panel))


class TestCell(unittest.TestCase):

    def test_bounds(self):
        for panel, end, offset, width in itertools.product((0, 3), (0, 1), (0, 60), (1, 9)):
            cell = Cell(panel, end, offset, width)
            self.assertEqual((cell.panel, cell.end, cell.offset, cell.width), (panel, end, offset, width))
            self.assertEqual(cell, Cell(width=width, offset=offset, end=end, panel=panel))
        self.assertEqual(Cell(1, 0, 3), Cell(1, 0, 3, 1))

    def test_first_wrong_part(self):
        for value in odd_values():
            self.assertEqual(raised(Cell, value, value, value, value), ("BadValue", "panel"))
            self.assertEqual(raised(Cell, 0, value, value, value), ("BadValue", "end"))
            self.assertEqual(raised(Cell, 0, 0, value, value), ("BadValue", "offset"))
            self.assertEqual(raised(Cell, 0, 0, 0, value), ("BadValue", "width"))
        beyond = ((4, 0, 0, 1, "panel"), (0, 2, 0, 1, "end"), (0, 0, 61, 1, "offset"), (0, 0, 0, 0, "width"), (0, 0, 0, 10, "width"))
        for panel, end, offset, width, what in beyond:
            self.assertEqual(raised(Cell, panel, end, offset, width), ("BadValue", what))

    def test_equality(self):
        cells = [Cell(*parts) for parts in itertools.product((0, 1), (0, 1), (0, 1), (1, 2))]
        for one, other in itertools.product(range(len(cells)), repeat=2):
            self.assertIs(cells[one] == cells[other], one == other)
        for value in odd_values():
            self.assertIs(Cell(0, 0, 0) == value, isinstance(value, Cell))


class TestSheet(unittest.TestCase):

    def test_attributes(self):
        panels, ahead, cells = [Panel(3, 4), Panel(2, 2)], [1, 0], [Cell(0, 1, 0, 2), Cell(1, 0, 0)]
        sheet = Sheet(panels, ahead, cells)
        panels.append(None)
        ahead.reverse()
        cells.clear()
        self.assertEqual(sheet.panels, (Panel(3, 4), Panel(2, 2)))
        self.assertEqual((sheet.ahead, sheet.cells), ((1, 0), (Cell(0, 1, 0, 2), Cell(1, 0, 0))))
        self.assertEqual((len(sheet), Sheet.MOST_PANELS, Sheet.MOST_CELLS), (2, 4, 12))
        self.assertEqual(sheet, Sheet(cells=sheet.cells, ahead=[1, 0], panels=sheet.panels))

    def test_bounds(self):
        for many in range(1, 5):
            sheet = Sheet([Panel(60, 60)] * many, list(range(many)), [Cell(many - 1, 0, k) for k in range(12)])
            self.assertEqual((len(sheet.panels), len(sheet)), (many, 12))
        self.assertEqual(raised(Sheet, [], [], [Cell(0, 0, 0)]), ("BadValue", "panels"))
        self.assertEqual(raised(Sheet, [Panel(1, 1)] * 5, [0, 1, 2, 3, 4], [Cell(0, 0, 0)]), ("BadValue", "panels"))
        self.assertEqual(raised(Sheet, [Panel(60, 60)], [0], [Cell(0, 0, k) for k in range(13)]), ("BadValue", "cells"))
        self.assertEqual(raised(Sheet, [Panel(60, 60)], [0], []), ("BadValue", "cells"))

    def test_kinds_in_order(self):
        panels, cells = (Panel(3, 3), Panel(3, 3)), (Cell(0, 0, 0),)
        for value in odd_values():
            self.assertEqual(raised(Sheet, value, value, value), ("BadValue", "panels"))
            self.assertEqual(raised(Sheet, (Panel(1, 1), value), value, value), ("BadValue", "panels") if value != Panel(1, 2) else ("BadValue", "ahead"))
            self.assertEqual(raised(Sheet, panels, value, value), ("BadValue", "ahead"))
            self.assertEqual(raised(Sheet, panels, (0, 1), value), ("BadValue", "cells"))
            if not isinstance(value, Cell):
                self.assertEqual(raised(Sheet, panels, (0, 1), (Cell(3, 0, 0), value)), ("BadValue", "cells"))
        for ahead in ((0,), (0, 0), (1, 2), (0, 1, 2), (0, True), (False, 1), (0, 1, 1), (-1, 0), range(2), "01", {0: 0, 1: 1}):
            self.assertEqual(raised(Sheet, panels, ahead, cells), ("BadValue", "ahead"))

    def test_faults_of_cells(self):
        panels = (Panel(5, 7), Panel(3, 3))
        faults = (
            ((Cell(2, 0, 0),), "panel", 0), ((Cell(0, 0, 0), Cell(3, 0, 60, 9)), "panel", 1),
            ((Cell(0, 0, 4, 2),), "length", 0), ((Cell(0, 1, 5, 1),), "length", 0), ((Cell(1, 1, 0, 4),), "length", 0),
            ((Cell(0, 0, 0, 2), Cell(1, 0, 0), Cell(0, 0, 1)), "overlap", 2),
            ((Cell(0, 0, 0, 2), Cell(0, 0, 1), Cell(2, 0, 0)), "overlap", 1),
            ((Cell(0, 0, 0, 2), Cell(0, 0, 1, 5)), "length", 1),
            ((Cell(1, 0, 1), Cell(1, 1, 1), Cell(0, 0, 60)), "overlap", 1),
        )
        for cells, what, index in faults:
            self.assertEqual(raised(Sheet, panels, (0, 1), cells), ("BadSheet", what, index))
        self.assertIsNone(raised(Sheet, panels, (0, 1), (Cell(0, 0, 4), Cell(0, 0, 0, 4), Cell(1, 0, 2), Cell(1, 1, 1))))

    def test_overlap_at_some_lengths(self):
        cells = [Cell(0, end, offset, width) for end in (0, 1) for offset in range(5) for width in (1, 2, 3)]
        for least in range(1, 8):
            for most in range(least, 9):
                for one, other in itertools.product(cells, repeat=2):
                    if max(one.offset + one.width, other.offset + other.width) > least:
                        continue
                    met = any(overlap(one, other, length) for length in range(least, most + 1))
                    told = raised(Sheet, (Panel(least, most),), (0,), (one, other))
                    self.assertEqual(told, ("BadSheet", "overlap", 1) if met else None)

    def test_equality(self):
        panels = (Panel(3, 4), Panel(3, 3))
        sheet = Sheet(panels, (0, 1), (Cell(0, 0, 0), Cell(1, 0, 0)))
        others = (
            Sheet((Panel(3, 3), Panel(3, 3)), (0, 1), sheet.cells), Sheet(panels, (1, 0), sheet.cells),
            Sheet(panels, (0, 1), sheet.cells[::-1]), Sheet(panels, (0, 1), sheet.cells[:1]),
        )
        for other in others:
            self.assertNotEqual(sheet, other)
        for value in odd_values():
            self.assertFalse(sheet == value)
        self.assertEqual(sheet, Sheet(list(panels), [0, 1], list(sheet.cells)))


class TestText(unittest.TestCase):

    def texts(self):
        one = Sheet((Panel(60, 60),), (0,), [Cell(0, 0, 4 * k, 1) for k in range(12)])
        four = Sheet([Panel(9, 10)] * 4, (2, 0, 3, 1), [Cell(p, e, 0, 4) for p in range(4) for e in (0, 1)])
        return [FOLDED, str(one), str(four)]

    def test_read_back(self):
        for text in self.texts():
            sheet = Sheet.read(text)
            self.assertEqual(str(sheet), text)
            self.assertEqual(Sheet.read(text=str(sheet)), sheet)
        self.assertEqual(str(Sheet((Panel(1, 60),), (0,), (Cell(0, 1, 0),))), "sheet 1 1 60 ahead 0 cells 1 0 1 0 1")

    def test_changed_texts(self):
        for text in self.texts()[:2]:
            for changed in changed_texts(text, ("sheet", "ahead", "cells", "2", "4", "5", "6", "60", "9", "10", "12", "13")):
                at = wrong_word(changed, follows, whole)
                if at is not None:
                    self.assertEqual(raised(Sheet.read, changed), ("BadText", 0, at), changed)
                    continue
                told = raised(Sheet.read, changed)
                if told is None:
                    self.assertEqual(str(Sheet.read(changed)), changed)
                else:
                    self.assertEqual(told[0], "BadSheet", changed)

    def test_what_the_class_raises(self):
        self.assertEqual(raised(Sheet.read, "sheet 1 2 2 ahead 0 cells 1 3 0 0 1"), ("BadSheet", "panel", 0))
        self.assertEqual(raised(Sheet.read, "sheet 1 2 2 ahead 0 cells 1 0 0 2 1"), ("BadSheet", "length", 0))
        self.assertEqual(raised(Sheet.read, "sheet 1 2 2 ahead 0 cells 2 0 0 0 2 0 1 0 1"), ("BadSheet", "overlap", 1))
        self.assertEqual(raised(Sheet.read, "sheet 1 2 2 ahead 0 cells 1 3 0 0 1 "), ("BadText", 0, 12))

    def test_no_string(self):
        for value in odd_values():
            told = wrong_word(value, follows, whole) if isinstance(value, str) else 0
            self.assertEqual(raised(Sheet.read, value), ("BadText", 0, told))


if __name__ == "__main__":
    unittest.main()
