"""Sheets: strips of panels that bear cells."""

from jumblepost.common import Words, are_integers, is_between, is_series
from jumblepost.errors import BadSheet, BadValue

MOST_LENGTH = 60
MOST_OFFSET = 60
MOST_CELL_WIDTH = 9


class Panel:
    """A panel, whose length is an integer from least to most."""

    def __init__(self, least, most):
        if not is_between(least, 1, MOST_LENGTH):
            raise BadValue("least")
        if not is_between(most, least, MOST_LENGTH):
            raise BadValue("most")
        self.least = least
        self.most = most

    @property
    def slack(self):
        """How much longer than its least the panel can be."""
        return self.most - self.least

    @classmethod
    def firm(cls, length):
        """The panel that has this length alone."""
        return cls(length, length)

    def __eq__(self, other):
        return isinstance(other, Panel) and self.least == other.least and self.most == other.most


class Cell:
    """A cell, which hangs on one end of its panel and bears a sign."""

    def __init__(self, panel, end, offset, width=1):
        if not is_between(panel, 0, 3):
            raise BadValue("panel")
        if not is_between(end, 0, 1):
            raise BadValue("end")
        if not is_between(offset, 0, MOST_OFFSET):
            raise BadValue("offset")
        if not is_between(width, 1, MOST_CELL_WIDTH):
            raise BadValue("width")
        self.panel = panel
        self.end = end
        self.offset = offset
        self.width = width

    def __eq__(self, other):
        return (isinstance(other, Cell) and self.panel == other.panel and self.end == other.end
                and self.offset == other.offset and self.width == other.width)


def is_order(ahead, many):
    """Whether any value is a list or tuple with each index below many once."""
    return is_series(ahead) and are_integers(ahead) and sorted(ahead) == list(range(many))


def can_overlap(one, other, panel):
    """Whether two cells of a panel overlap at a length that it may have."""
    if one.end == other.end:
        return one.offset < other.offset + other.width and other.offset < one.offset + one.width
    # From unlike ends they pass one another while the panel is longer than both offsets
    # together and shorter than both farther sides together.
    offsets = one.offset + other.offset
    return max(panel.least, offsets + 1) <= min(panel.most, offsets + one.width + other.width - 1)


def check_cell(panels, cells, index):
    """Raises the first error that is due for a cell of a sheet."""
    cell = cells[index]
    if cell.panel >= len(panels):
        raise BadSheet("panel", index)
    panel = panels[cell.panel]
    if cell.offset + cell.width > panel.least:
        raise BadSheet("length", index)
    for earlier in cells[:index]:
        if earlier.panel == cell.panel and can_overlap(earlier, cell, panel):
            raise BadSheet("overlap", index)


def sheet_words(sheet):
    """The words and integers of the text of a sheet."""
    lengths = [length for panel in sheet.panels for length in (panel.least, panel.most)]
    parts = [part for cell in sheet.cells for part in (cell.panel, cell.end, cell.offset, cell.width)]
    return (["sheet", len(sheet.panels)] + lengths + ["ahead"] + list(sheet.ahead)
            + ["cells", len(sheet.cells)] + parts)


def read_panel(words):
    """The panel whose least and most length the next words are."""
    least = words.integer(1, MOST_LENGTH)
    return Panel(least, words.integer(least, MOST_LENGTH))


def read_order(words, many):
    """The order of so many panels that the next words tell."""
    ahead = []
    for _ in range(many):
        ahead.append(words.integer(0, many - 1, ahead))
    return ahead


def read_cell(words):
    """The cell that the next four words tell."""
    panel = words.integer(0, 3)
    end = words.integer(0, 1)
    offset = words.integer(0, MOST_OFFSET)
    return Cell(panel, end, offset, words.integer(1, MOST_CELL_WIDTH))


class Sheet:
    """Panels, an order of them, the foremost one first, and cells."""

    MOST_PANELS = 4
    MOST_CELLS = 12

    def __init__(self, panels, ahead, cells):
        if not is_series(panels) or not 1 <= len(panels) <= Sheet.MOST_PANELS:
            raise BadValue("panels")
        if not all([isinstance(panel, Panel) for panel in panels]):
            raise BadValue("panels")
        if not is_order(ahead, len(panels)):
            raise BadValue("ahead")
        if not is_series(cells) or not 1 <= len(cells) <= Sheet.MOST_CELLS:
            raise BadValue("cells")
        if not all([isinstance(cell, Cell) for cell in cells]):
            raise BadValue("cells")
        for index in range(len(cells)):
            check_cell(panels, cells, index)
        self.panels = tuple(panels)
        self.ahead = tuple(ahead)
        self.cells = tuple(cells)

    def __len__(self):
        return len(self.cells)

    def __eq__(self, other):
        return (isinstance(other, Sheet) and self.panels == other.panels
                and self.ahead == other.ahead and self.cells == other.cells)

    def __str__(self):
        return " ".join([str(word) for word in sheet_words(self)])

    @classmethod
    def read(cls, text):
        """The sheet whose text this is."""
        words = Words(text)
        words.skip("sheet")
        many = words.integer(1, cls.MOST_PANELS)
        panels = [read_panel(words) for _ in range(many)]
        words.skip("ahead")
        ahead = read_order(words, many)
        words.skip("cells")
        many = words.integer(1, cls.MOST_CELLS)
        cells = [read_cell(words) for _ in range(many)]
        words.finish()
        return cls(panels, ahead, cells)
