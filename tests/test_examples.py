"""The examples of the document, word for word."""

import unittest

from tests.helpers import Examples

ROWS = '''
>>> from jumblepost.rows import Row
>>> row = Row(2, 1, 6)
>>> [str(row), str(~row), row.holds((0, 3, 9)), row.holds([0, 3, 10])]
['x2 - x1 <= 6', 'x1 - x2 <= -7', True, False]
>>> Row.read("x2 - x2 <= 0")
raises BadRow(1)
'''

ZONES = '''
>>> from jumblepost.zones import Zone
>>> zone = Zone(3, 10, [Row(2, 1, 6), Row(1, 2, -4)])
>>> [zone.gap(2, 1), zone.gap(1, 0), zone.lowest(), zone.highest(), Row(2, 1, 5) in zone, zone == zone & Row(1, 0, 6), len(list(zone.placings()))]
[6, 6, (0, 0, 4), (0, 6, 10), False, True, 18]
>>> shut = zone & Row(2, 0, 3)
>>> [bool(shut), sum([row.most for row in shut.ring().rows]), [str(row) for row in zone.chain(1, 0).rows]]
[False, -1, ['x1 - x2 <= -4', 'x2 - x0 <= 10']]
>>> shut.gap(1, 0)
raises NoPlacing(0)
'''

LYING = '''
>>> from jumblepost.lying import cell_places, view_at
>>> from jumblepost.sheets import Cell, Panel, Sheet
>>> from jumblepost.stations import Station
>>> sheet = Sheet((Panel(6, 7), Panel.firm(4)), (1, 0), (Cell(0, 0, 0, 2), Cell(0, 0, 2, 2), Cell(1, 1, 0, 2)))
>>> station = Station(10, ((1, 5),))
>>> [cell_places(sheet, (0, 1, 7, 3)), view_at(sheet, station, (0, 1, 7, 3)), cell_places(sheet, (0, 7, 1, 5), True)]
[((1, 3), (3, 5), (3, 5)), ((0, 2),), ((5, 7), (3, 5), (3, 5))]
>>> str(sheet)
'sheet 2 6 7 4 4 ahead 1 0 cells 3 0 0 0 2 0 0 2 2 1 1 0 2'
'''

VIEWS = '''
>>> from jumblepost.lying import cell_places, view_at
>>> from jumblepost.look_views import look_tree
>>> from jumblepost.sheets import Cell, Panel, Sheet
>>> from jumblepost.stations import Station
>>> from jumblepost.views import edge_ranges, view_tree, views
>>> sheet = Sheet((Panel(6, 7), Panel.firm(4)), (1, 0), (Cell(0, 0, 0, 2), Cell(0, 0, 2, 2), Cell(1, 1, 0, 2)))
>>> station = Station(10, ((1, 5),))
>>> [cell_places(sheet, (0, 1, 7, 3)), view_at(sheet, station, (0, 1, 7, 3)), cell_places(sheet, (0, 7, 1, 5), True)]
[((1, 3), (3, 5), (3, 5)), ((0, 2),), ((5, 7), (3, 5), (3, 5))]
>>> [(sight.view, sight.places) for sight in views(sheet, station)]
[(((),), (0, 4, 10, 6)), (((0,),), (0, 1, 8, 4)), (((0, 2),), (0, 1, 7, 3)), (((2,),), (0, 0, 6, 2))]
>>> tree = view_tree(sheet, station)
>>> [str(node) for node in tree[:4]]
['x0 - x1 <= -1', 'x1 - x0 <= 3', 'x1 - x0 <= 1', 'x3 - x0 <= 3']
>>> [node.places for node in tree[4:]]
[(0, 1, 7, 3), (0, 1, 8, 4), (0, 2, 8, 4), (0, 4, 10, 6), (0, 0, 6, 2)]
>>> [look_tree(tree, sheet, station), look_tree((), sheet, station), edge_ranges(sheet, station, ((0,),))]
[True, False, ((1, 3), (8, 10), (4, 6))]
>>> str(sheet)
'sheet 2 6 7 4 4 ahead 1 0 cells 3 0 0 0 2 0 0 2 2 1 1 0 2'
'''

WHEELS = '''
>>> from jumblepost.wheels import Wheel
>>> late = Wheel(("0", "1", "2"), lag=1)
>>> [late.may(1), late.may(1, 1), late.may(0, 1), late.may(2, band=2), late == Wheel.digits(3, 1), str(late)]
[(1,), (0, 1), (0, 2), (0, 2), True, '0 1 2 / 1 0']
>>> Wheel.read("0 / 0 0")
raises BadText(0, 1)
'''

STAMPS = '''
>>> from jumblepost.stamps import Stamp
>>> stamp = Stamp(Wheel.digits(3), late)
>>> [stamp.cycle, stamp.figures(6), stamp.band(0, 0), stamp.band(0, 1), list(stamp.standings(6)), stamp.prints(6), stamp.prints(9)]
[9, (0, 2), 1, 0, [(0, 1), (0, 2)], ('10', '20'), ('00', '20')]
>>> [stamp.value((0, 2)), stamp.print_of((2, 0)), stamp.cell(0), str(stamp), len(stamp)]
[6, '02', (1, 0), '0 1 2 / 0 0 ; 0 1 2 / 1 0', 2]
>>> Stamp(Wheel.digits(2), Wheel.digits(4, 2, 1))
raises BadStamp('bands', 1)
'''

PRINTED = '''
>>> from jumblepost.printed import count_printed, next_printed, printed
>>> [count_printed(stamp, "1."), [printed(stamp, "1.", k) for k in range(4)], next_printed(stamp, "1.", 7), next_printed(stamp, "0x", 0)]
[4, [3, 4, 5, 6], 12, None]
'''

LOOK_SIGHTINGS = '''
>>> from jumblepost.lines import Line
>>> from jumblepost.looks import are_alike, common_looks, look_of, looks, next_shown
>>> from jumblepost.look_sightings import look_alike
>>> from jumblepost.sightings import alike
>>> sheet = Sheet((Panel(8, 8),), (0,), (Cell(0, 0, 0, 2), Cell(0, 0, 6, 2), Cell(0, 0, 3, 2)))
>>> three = Wheel(("0", "1", "2"))
>>> narrow = Line(sheet, Stamp(three, three, three), Station(10, ((3, 7),)))
>>> broad = Line(sheet, Stamp(three, three, three), Station(10, ((2, 8),)))
>>> [narrow.views, broad.views, look_of(((0, 2),), "100")]
[(((2,),),), (((0, 2),), ((2,),), ((2, 1),)), ('10',)]
>>> [looks(narrow, 9), looks(broad, 9), looks(broad, 10), common_looks(broad, 9, 10), are_alike(broad, 9, 13)]
[(('0',),), (('0',), ('00',), ('10',)), (('1',), ('10',), ('11',)), (('10',),), False]
>>> [next_shown(broad, ("10",), 2), next_shown(broad, ("10",), 20), next_shown(broad, ("3",), 0)]
[9, 28, None]
>>> paper = alike(broad, 9, 10)
>>> [paper.distance, paper.one.standing, paper.other.sights[0].view, look_alike(paper, broad), look_alike(paper, narrow)]
[1, (0, 0, 1), ((2, 1),), True, False]
>>> Line(sheet, Stamp(three, three), Station(10, ((3, 7),)))
raises BadLine('cells')
'''

LOOK_SPANS = '''
>>> from jumblepost.distances import alike_at, alike_distances
>>> from jumblepost.links import links
>>> from jumblepost.look_spans import look_table
>>> from jumblepost.spans import SpanTable, nearest_pair, span, span_table
>>> [links(((0, 1), (4,)), ((1, 2), (3,))), links(((0,),), ((),)), span(narrow), span(broad), alike_distances(narrow, 10), alike_at(narrow, 4)]
[((0, 1), (1, 2), (4, 3)), None, 3, 1, (3, 6, 9), None]
>>> table = span_table(narrow)
>>> [table.span, len(table.tables), table.tables[0][2][0], look_table(table, narrow), look_table(SpanTable(4, table.tables), narrow)]
[3, 1, (((0, 0, 0, 0, ''), 0),), True, False]
>>> [table.tables[0][2][1], look_table(SpanTable(2, table.tables), narrow)]
[(((0, 0, 0, 0, ''), 0), ((0, 0, 0, 1, ''), 3), ((0, 0, 1, 1, ''), 3)), True]
>>> plain = Wheel(("pa", "qa", "ra", "sa"))
>>> low = Wheel(("pa", "qa", "ra", "pb"))
>>> high = Wheel(("pa", "pb", "qa", "ra"))
>>> bars = Station(4, ((0, 1), (2, 3)))
>>> four = Sheet((Panel(4, 4),), (0,), (Cell(0, 0, 0), Cell(0, 0, 1), Cell(0, 0, 2), Cell(0, 0, 3)))
>>> [span(Line(four, Stamp(low, plain), bars)), span(Line(four, Stamp(plain, high), bars)), span(Line(four, Stamp(low, high), bars))]
[3, 4, 1]
>>> pair = nearest_pair(Line(four, Stamp(low, high), bars))
>>> [pair.one.number, pair.other.number, pair.one.look]
[3, 4, ('p', 'p')]
'''

HEADS = '''
>>> from jumblepost.heads import begun_run, head_end
>>> from jumblepost.jumbles import Jumble
>>> from jumblepost.runs import Run
>>> lossy, unread = Jumble(1, 1, lost=1), Jumble(1, 1, apart=2)
>>> [head_end(lossy, (1, 3, 2)), head_end(lossy, (1, 3, 4)), begun_run(lossy, (1, 0, 4, 3, 7)) == Run(0, (1, 0, 4, 3, 7), (2, 6))]
[None, 2, True]
>>> [begun_run(unread, (None, 2, None)) == Run(0, (0, 2, 1)), head_end(unread, (None, None))]
[True, 1]
'''

STORE = '''
>>> from jumblepost.store import Store
>>> store = Store(2)
>>> [store.put(1), store.put(2), store.put(0), store.put(3), store.held, store.last, len(store)]
[None, None, 0, 1, (2, 3), 1, 2]
>>> store.put(0)
raises Unfit(4)
'''

UNREAD = '''
>>> from jumblepost.unread import reader, readings
>>> digits = Line(Sheet((Panel(1, 1),), (0,), (Cell(0, 0, 0),)), Stamp.digits(10), Station(1, ((0, 1),)))
>>> loss = reader(digits, Jumble(1, 1, lost=1), first=8)
>>> [loss.take_all(("9",), ("1",)), loss.missing, loss.window, loss.KIND]
[((0, 9), (1, 11)), (8,), (10, 13), 'loss']
>>> loss.take(("2",))
raises Unfit(2)
>>> [loss.take(("0",)), loss.take(("2",)), loss.last, loss.held, loss.missing]
[((2, 10),), ((3, 12),), 11, (12,), (8,)]
>>> list(readings(digits, Jumble(1, 1, apart=2), (None, ("1",), None, ("2",))))
[(0, 0), (1, 1), (2, 3), (3, 2)]
>>> reader(digits, Jumble(5, 6))
raises NotForced
'''

# What the document uses here is imported, as it says, from the file of the heading.
HISTORIES = '''
>>> from jumblepost.histories import count_histories, dead_end, is_history, possible_numbers, walk_histories
>>> line = Line(Sheet((Panel(1, 1),), (0,), (Cell(0, 0, 0),)), Stamp(Wheel(("a", "b"))), Station(1, ((0, 1),)))
>>> a, b, jumble = ("a",), ("b",), Jumble(early=2, late=1)
>>> [count_histories(line, jumble, (a, b)), list(walk_histories(line, jumble, (a, b, b)))]
[2, [(0, 1, 3), (0, 3, 1)]]
>>> [possible_numbers(line, jumble, (a, b, b, a)), dead_end(line, jumble, (a, a, a, b)), is_history(line, jumble, (a, b, b), (2, 1, 3))]
[((0,), (1, 3), (1, 3), (2,)), 2, False]
'''

LEDGER = '''
>>> from jumblepost.ledger import Ledger
>>> book = Ledger(line, jumble)
>>> book.take_all(a, b, b)
>>> [len(book), book.ways, book.settled, book.possible(1), (0, 3, 1) in book, book.second(0), book.second(2).one]
[3, 2, (0, None, None), (1, 3), True, None, (0, 3, 1)]
>>> book.take_all(a, b, b)
raises NoHistory(5)
>>> [len(book), Ledger.of(line, jumble, (a, b)).table().levels]
[3, ((((), 1, 2),), (((0,), 1, 2), ((2,), 1, 0)), (((1,), 1, 1), ((3,), 1, 1)))]
'''

LOOK_MET = '''
>>> from jumblepost.look_met import look_met, look_once
>>> from jumblepost.met import met_line
>>> from jumblepost.once import one_unread
>>> from jumblepost.residues import closed_number, open_residues
>>> from jumblepost.steady import SteadyRun
>>> sheet = Sheet((Panel(2, 2),), (0,), (Cell(0, 0, 0), Cell(0, 0, 1)))
>>> one_late = Line(sheet, Stamp(Wheel.digits(4), Wheel.digits(3, 1)), Station(2, ((0, 2),)))
>>> two_late = one_late.stamped(Stamp(Wheel.digits(4), Wheel.digits(3, 2)))
>>> [open_residues(one_late, 4), open_residues(two_late, 4), open_residues(one_late, 8), closed_number(one_late, 4, 9)]
[(0,), (0, 1), (0, 4), 9]
>>> run = SteadyRun(2, 2, 6, (0, 1))
>>> [run.stretch(0, 12), run.where(12), SteadyRun(2, 2, 6, (0, 2), 4).stretch(4, 4), SteadyRun(2, 2, 0, (2, 3)).stretch(0, 8)]
[(0, 1, 2, 3, 4, 5, 8, 9, 6, 7, 12, 13), (10,), (6, 4, 8, 5), (2, 3, 0, 1, 6, 7, 4, 5)]
>>> forced, two = met_line(one_late, 2, 2), met_line(two_late, 2, 2, 6)
>>> [forced.place, forced.closed, look_met(forced, one_late), len(two.alikes), look_met(two, two_late), look_met(two, one_late)]
[2, (None, 1, 2, 3), True, 6, True, False]
>>> [one_unread(one_late, 2, 2) == forced, look_once(one_unread(two_late, 2, 2), two_late)]
[True, True]
'''

CHANGES = '''
>>> from jumblepost.changes import at_stations, with_pane
>>> boxes = Sheet((Panel.firm(8),), (0,), (Cell(0, 0, 0, 2), Cell(0, 0, 6, 2), Cell(0, 0, 3, 2)))
>>> threes = Stamp.digits(3, 3, 3)
>>> broad = Line(boxes, threes, Station(10, ((2, 8),)))
>>> wide, less = with_pane(broad, 0, 0, (2, 10)), with_pane(broad, 0, 0, (2, 7))
>>> [span(less), span(broad), span(wide), span(at_stations(broad, 0))]
[3, 1, 9, 1]
'''

GREATEST = '''
>>> from jumblepost.greatest import frontier, greatest, with_part
>>> [greatest(wide, Jumble(2, 2), "late").amount, greatest(wide, Jumble(2, 2), "lost").amount, greatest(wide, Jumble(2, 2, 0, True), "lost").amount, greatest(wide, Jumble(0, 2, 0, False, 1), "early").amount]
[7, 4, 3, 6]
>>> [str(with_part(Jumble(1, 2, 0, False, 3), "late", 5)), greatest(less, Jumble(2, 1, 1), "early").amount, bool(greatest(less, Jumble(0, 0, 3), "early"))]
['early 1 late 5 apart 6', 0, False]
>>> [str(jumble) for jumble in frontier(less)]
['early 0 late 0 apart 1', 'early 0 late 0 lost 1 again', 'early 0 late 0 lost 2', 'early 1 late 1 apart 2', 'early 1 late 2', 'early 2 late 1']
'''

LEAST = '''
>>> from jumblepost.least import fewest_stations, least_pane, pane_spans
>>> list(pane_spans(broad, 0, 0))
[(1, 1), (2, 1), (3, 1), (4, 1), (5, 3), (6, 1), (7, 1), (8, 9)]
>>> found = least_pane(broad, 0, 0, Jumble(1, 2))
>>> [found.amount, len(found.lesser), least_pane(broad, 0, 0, Jumble(2, 2)).amount, least_pane(broad, 0, 0, Jumble(5, 5)).amount]
[5, 4, 8, None]
>>> left, mid, right = Station(8, ((0, 2),)), Station(8, ((3, 5),)), Station(8, ((6, 8),))
>>> found = fewest_stations(Line(boxes, threes, left, mid, right), Jumble(2, 2))
>>> [found.amount, len(found.lesser)]
[(1, 2), 5]
'''

SHELVES = '''
>>> from jumblepost.shelves import Shelf, cheapest
>>> shelf = Shelf(boxes, ("digits", threes, 5), ("wide", Station(10, ((2, 10),)), 4), ("right", right, 1), ("mid", mid, 1))
>>> [list(shelf), "left" in shelf, list(shelf.selections())[:3], shelf.cost(("digits", "mid", "wide"))]
[['digits', 'mid', 'right', 'wide'], False, [('digits', 'mid'), ('digits', 'right'), ('digits', 'mid', 'right')], 10]
>>> found = cheapest(shelf, Jumble(2, 2))
>>> [found.names, found.price, [names for names, paper in found.bars], cheapest(shelf.without("mid"), Jumble(2, 2)).names, cheapest(shelf, Jumble(5, 5)).names]
[('digits', 'mid', 'right'), 7, [('digits', 'mid'), ('digits', 'right')], ('digits', 'wide'), None]
>>> shelf.beside(("mid", mid, 2))
raises BadShelf('name', 4)
'''

LOOK_DESIGNS = '''
>>> from jumblepost.look_designs import look_cheapest, look_greatest
>>> best = greatest(wide, Jumble(2, 2), "late")
>>> [look_greatest(best, wide, Jumble(2, 3), "late"), look_greatest(best, wide, Jumble(3, 2), "late"), look_cheapest(found, shelf.without("wide"), Jumble(2, 2)), look_cheapest(found, shelf.without("right"), Jumble(2, 2))]
[True, False, True, False]
'''

POST = '''
>>> from jumblepost.post import Post, tried
>>> post = Post(digits, Jumble(early=1, late=2))
>>> [post.take(("1",)), post.take_all(("2",), ("0",)), post.by_place, tried(post, ("3",), ("5",), ("9",))]
[((0, 1),), ((1, 2), (2, 0)), (1, 2, 0), (((3, 3), (4, 5)), 5)]
>>> [post.undo(), post.by_place, len(post.undone), post.redo() == post.deeds[1]]
[('take', (('2',), ('0',))), (1,), 1, True]
>>> post.change(Jumble(1, 1))
raises Unfit(1)
>>> [post.begin(), post.change(Jumble(2, 2)), post.take(("5",)), post.undo(), len(post.undone), post.drop(), str(post.rule), post.undone]
[None, None, ((3, 5),), ('take', (('5',),)), 1, None, 'early 1 late 2', ()]
'''

TEXTS = '''
>>> from jumblepost.texts import Setting, look_text, read_look, read_record, record_text
>>> [look_text(("10", "")), look_text(None), read_look("_|a"), record_text((("10", ""), None)), read_record("record")]
['10|_', '?', ('', 'a'), 'record 10|_ ?', ()]
>>> read_record("record 1| ?")
raises BadText(0, 1)
>>> text = "sheet 1 2 2 ahead 0 cells 2 0 0 0 1 0 0 1 1\\nstamp 0 1 2 3 / 0 0 ; 0 1 2 / 1 0\\nstation 2 panes 1 0 2 rows 0 plain\\njumble early 2 late 2"
>>> [str(Setting.read(text)) == text, Setting.read(text).line.views, Setting.read(text).jumble.need]
[True, (((0, 1),),), 4]
>>> Setting.read(text.replace("0 2 rows", "0 61 rows"))
raises BadText(2, 5)
'''

DESK = '''
>>> from jumblepost.desk import Desk
>>> desk = Desk(digits, Jumble(1, 2))
>>> [list(desk.run("span\\nneed\\nopen\\ntake 1 2 0")), desk.ask("undo"), desk.ask("take 1 2"), desk.ask("told")]
[['10', '3', 'open', '0:1 1:2 2:0'], 'take 1 2 0', '0:1 1:2', '    0 1                              1\\n    1 2                              2']
>>> [desk.ask("looks 16"), desk.ask("alike 2 12"), desk.ask("alike 2 3"), desk.ask("next 3 100"), desk.ask("jumble early 1 late 2 apart 2"), desk.ask("forced")]
['6', '2', 'unlike', '103', 'set', 'twins 0 0 1']
>>> desk.ask("take 1 x|")
raises BadAsk(0, 2)
'''

# The examples that stand in running text under the headings of jumbles and runs.
JUMBLES = '''
>>> from jumblepost.jumbles import Jumble
>>> Jumble(0, 0, 1).within(Jumble(2, 2, 1))
False
>>> Jumble(0, 5).within(Jumble(1, 1))
True
>>> [Jumble(2, 2).need, Jumble(1, 1, 1).need, Jumble(1, 1, 2, True).need, Jumble(3, 0).need, Jumble(1, 2, 0, False, 3).need, Jumble(1, 2, 0, False, 2).need]
[4, 4, 6, 1, 4, None]
>>> Jumble(1, 0, 0, False, 2)
raises BadValue("apart")
>>> Jumble.read("early 1 late 2 lost 0")
raises BadText(0, 5)
'''

RUNS = '''
>>> from jumblepost.runs import Run, faults, fits
>>> run = Run(2, (4, 3, 3), (5,))
>>> [run.rank(2), run.rank(4), run.rank(5), run.where(3), list(faults(run, Jumble(2, 2))), fits(run, Jumble(3, 3, 1, True))]
[5, 4, 2, (3, 4), [('again', 4), ('lost', 5), ('early', 2), ('late', 5)], True]
>>> str(run)
'begin 2 numbers 4 3 3 lost 5'
>>> Run(2, (2,), (1,))
raises BadRun("lost", 0)
'''


class TestExamples(unittest.TestCase):
    """Each heading runs behind those whose names its examples use."""

    def test_rows_and_zones(self):
        examples = Examples(self)
        examples.run(ROWS)
        examples.run(ZONES)

    def test_lying(self):
        Examples(self).run(LYING)

    def test_views(self):
        Examples(self).run(VIEWS)

    def test_those_behind_views(self):
        examples = Examples(self)
        for text in (VIEWS, WHEELS, STAMPS, PRINTED, LOOK_SIGHTINGS, LOOK_SPANS, JUMBLES, RUNS, HEADS, STORE, UNREAD, HISTORIES, LEDGER):
            examples.run(text)
        for text in (LOOK_MET, CHANGES, GREATEST, LEAST, SHELVES, LOOK_DESIGNS, POST, TEXTS, DESK):
            examples.run(text)


if __name__ == "__main__":
    unittest.main()
