"""The interface: each name stands in its file, with its parameters and its methods."""

import importlib
import inspect
import unittest

FUNCTIONS = {
    "look_zones": {
        "look_placing": "(places, zone)", "look_ring": "(ring, zone)", "look_chain": "(chain, zone, row)",
    },
    "lying": {
        "zone_of": "(sheet, station, turned=False)", "cell_places": "(sheet, places, turned=False)",
        "view_at": "(sheet, station, places, turned=False)",
    },
    "views": {
        "view_tree": "(sheet, station, turned=False)", "each_sight": "(sheet, station)", "views": "(sheet, station)",
        "edge_ranges": "(sheet, station, view)",
    },
    "look_views": {"look_sight": "(sight, sheet, station)", "look_tree": "(tree, sheet, station, turned=False)"},
    "printed": {
        "count_printed": "(stamp, pattern)", "printed": "(stamp, pattern, index)", "next_printed": "(stamp, pattern, number)",
    },
    "looks": {
        "look_of": "(view, text)", "looks": "(line, number)", "shows": "(line, number, look)", "is_look": "(line, look)",
        "common_looks": "(line, one, other)", "are_alike": "(line, one, other)", "next_shown": "(line, look, number)",
    },
    "sightings": {
        "sighting": "(line, number, look)", "sightings": "(line, number)", "alike": "(line, one, other)",
    },
    "look_sightings": {"look_sighting": "(paper, line)", "look_alike": "(paper, line)"},
    "links": {"links": "(view, other)"},
    "spans": {"span_table": "(line)", "span": "(line)", "nearest_pair": "(line)"},
    "distances": {"alike_at": "(line, distance)", "alike_distances": "(line, most)"},
    "look_spans": {"look_table": "(paper, line)"},
    "runs": {"faults": "(run, jumble, unread=())", "fits": "(run, jumble, unread=())"},
    "twins": {"twins": "(line, jumble)"},
    "forced": {"decide": "(line, jumble)", "is_forced": "(line, jumble)"},
    "look_forced": {"look_twins": "(paper, line)", "look_forced": "(paper, line)"},
    "heads": {"begun_run": "(jumble, head)", "head_end": "(jumble, head)"},
    "unread": {"reader": "(line, jumble, first=0)", "readings": "(line, jumble, record, first=0)"},
    "histories": {
        "count_histories": "(line, jumble, record, first=0)", "possible_numbers": "(line, jumble, record, first=0)",
        "walk_histories": "(line, jumble, record, first=0)", "dead_end": "(line, jumble, record, first=0)",
        "is_history": "(line, jumble, record, history, first=0)",
    },
    "ledger": {"ledger_table": "(line, jumble, record, first=0)"},
    "look_histories": {"look_ledger": "(paper, line)", "look_second": "(paper, line)"},
    "residues": {"open_residues": "(line, spread)", "closed_number": "(line, spread, number)"},
    "met": {"met_line": "(line, early, late, place=None)"},
    "once": {"one_unread": "(line, early, late)"},
    "look_met": {"look_met": "(paper, line)", "look_once": "(paper, line)"},
    "changes": {"with_pane": "(line, station_at, pane_at, pane)", "at_stations": "(line, *stations_at)"},
    "greatest": {
        "with_part": "(jumble, part, amount)", "greatest": "(line, jumble, part)", "frontier": "(line, most=6)",
    },
    "least": {
        "pane_spans": "(line, station_at, pane_at)", "least_pane": "(line, station_at, pane_at, jumble)",
        "fewest_stations": "(line, jumble)",
    },
    "shelves": {"cheapest": "(shelf, jumble)"},
    "look_designs": {
        "look_greatest": "(paper, line, jumble, part)", "look_pane": "(paper, line, station_at, pane_at, jumble)",
        "look_stations": "(paper, line, jumble)", "look_cheapest": "(paper, shelf, jumble)",
    },
    "post": {"tried": "(post, *looks)"},
    "texts": {
        "look_text": "(look)", "read_look": "(text)", "record_text": "(record)", "read_record": "(text)",
    },
    "desk_lines": {"parsed": "(text)", "columns": "(rows, widths)"},
}

CLASSES = {
    "rows": {
        "Row": {"__init__": "(self, one, other, most)", "__invert__": "(self)", "__eq__": "(self, other)", "holds": "(self, places)", "__str__": "(self)", "read": "(text)"},
    },
    "zones": {
        "Ring": {"__init__": "(self, rows)", "__eq__": "(self, other)"},
        "Chain": {"__init__": "(self, rows)", "__eq__": "(self, other)"},
        "Zone": {
            "__init__": "(self, points, width, rows=())", "__and__": "(self, other)", "__contains__": "(self, x)", "__bool__": "(self)", "__eq__": "(self, other)",
            "gap": "(self, one, other)", "lowest": "(self)", "highest": "(self)", "placings": "(self)", "ring": "(self)", "chain": "(self, one, other)",
        },
    },
    "sheets": {
        "Panel": {"__init__": "(self, least, most)", "slack": None, "firm": "(length)", "__eq__": "(self, other)"},
        "Cell": {"__init__": "(self, panel, end, offset, width=1)", "__eq__": "(self, other)"},
        "Sheet": {"__init__": "(self, panels, ahead, cells)", "__len__": "(self)", "__eq__": "(self, other)", "__str__": "(self)", "read": "(text)", "MOST_PANELS": None, "MOST_CELLS": None},
    },
    "stations": {
        "Station": {"__init__": "(self, width, panes, rows=(), either=False)", "pushed": "(self, *rows)", "__eq__": "(self, other)", "__str__": "(self)", "read": "(text)", "MOST_PANES": None, "WIDEST": None},
    },
    "views": {"Sight": {"__init__": "(self, view, places, turned)", "__eq__": "(self, other)"}},
    "wheels": {
        "Wheel": {"__init__": "(self, faces, lag=0, lead=0)", "digits": "(size=10, lag=0, lead=0)", "may": "(self, due, band=0)", "__eq__": "(self, other)", "__str__": "(self)", "read": "(text)"},
    },
    "stamps": {
        "Stamp": {
            "__init__": "(self, *wheels)", "digits": "(*sizes)", "__len__": "(self)", "__iter__": "(self)", "__getitem__": "(self, at)", "figures": "(self, number)",
            "standings": "(self, number)", "prints": "(self, number)", "value": "(self, figures)", "print_of": "(self, figures)", "band": "(self, index, due)",
            "cell": "(self, sign)", "__eq__": "(self, other)", "__str__": "(self)", "read": "(text)",
        },
    },
    "lines": {
        "Line": {"__init__": "(self, sheet, stamp, *stations)", "sights_of": "(self, view)", "beside": "(self, *stations)", "stamped": "(self, stamp)", "__eq__": "(self, other)", "MOST_STATIONS": None, "MOST_VIEWS": None},
    },
    "sightings": {
        "Sighting": {"__init__": "(self, number, standing, sights, look)", "__eq__": "(self, other)"},
        "Alike": {"__init__": "(self, one, other)", "distance": None, "__eq__": "(self, other)"},
    },
    "spans": {"SpanTable": {"__init__": "(self, span, tables)", "__eq__": "(self, other)"}},
    "jumbles": {
        "Jumble": {
            "__init__": "(self, early=0, late=0, lost=0, again=False, apart=0)", "spread": None, "need": None, "plain": None, "MOST": None,
            "within": "(self, other)", "__eq__": "(self, other)", "__str__": "(self)", "read": "(text)",
        },
    },
    "runs": {
        "Run": {
            "__init__": "(self, begin, numbers=(), lost=())", "letter": "(self, place)", "rank": "(self, place)", "where": "(self, number)",
            "stretch": "(self, place, many)", "__eq__": "(self, other)", "__str__": "(self)", "read": "(text)",
        },
    },
    "twins": {"Twins": {"__init__": "(self, jumble, place, one, other, unread, alikes)", "__eq__": "(self, other)", "__bool__": "(self)"}},
    "forced": {"Forced": {"__init__": "(self, jumble, table)", "__eq__": "(self, other)"}},
    "store": {"Store": {"__init__": "(self, late)", "put": "(self, number)", "__len__": "(self)"}},
    "readers": {
        "Reader": {"KIND": None, "window": None, "take": "(self, look)", "take_all": "(self, *looks)", "anew": "(self)"},
        "PlainReader": {"KIND": None}, "LossReader": {"KIND": None}, "AgainReader": {"KIND": None},
    },
    "unread": {"UnreadReader": {"KIND": None, "window": None}},
    "ledger": {
        "Ledger": {
            "__init__": "(self, line, jumble, first=0)", "MOST": None, "of": "(line, jumble, record, first=0)", "beginnings": "(self)", "take": "(self, look)",
            "take_all": "(self, *looks)", "__len__": "(self)", "possible": "(self, place)", "second": "(self, place)",
            "__contains__": "(self, x)", "table": "(self)",
        },
        "LedgerTable": {"__init__": "(self, jumble, looks, first, levels)", "__eq__": "(self, other)"},
        "Second": {"__init__": "(self, jumble, looks, first, place, one, other)", "__eq__": "(self, other)"},
    },
    "steady": {
        "SteadyRun": {
            "__init__": "(self, early, late, place, ahead, final=None)", "__eq__": "(self, other)", "letter": "(self, place)", "where": "(self, number)",
            "stretch": "(self, place, many)",
        },
    },
    "met": {
        "MetForced": {"__init__": "(self, early, late, place, table, closed)", "__eq__": "(self, other)"},
        "MetTwins": {"__init__": "(self, early, late, place, one, other, alikes)", "__eq__": "(self, other)"},
    },
    "once": {"OnceTwins": {"__init__": "(self, early, late, unread, one, other, alikes)", "__eq__": "(self, other)"}},
    "greatest": {"Greatest": {"__init__": "(self, amount, forced, beyond)", "__eq__": "(self, other)", "__bool__": "(self)"}},
    "least": {"Least": {"__init__": "(self, amount, forced, lesser)", "__eq__": "(self, other)", "__bool__": "(self)"}},
    "shelves": {
        "Shelf": {
            "__init__": "(self, sheet, *rows)", "__len__": "(self)", "__iter__": "(self)", "__contains__": "(self, x)", "__getitem__": "(self, at)",
            "beside": "(self, *rows)", "without": "(self, *names)", "selections": "(self)", "chosen": "(self, names)", "cost": "(self, names)", "__eq__": "(self, other)",
        },
        "Cheapest": {"__init__": "(self, names, price, forced, bars)", "__eq__": "(self, other)", "__bool__": "(self)"},
    },
    "post": {
        "Post": {
            "__init__": "(self, line, jumble, first=0)", "by_place": None, "take": "(self, look)", "take_all": "(self, *looks)", "change": "(self, jumble)",
            "do": "(self, *deeds)", "undo": "(self)", "redo": "(self)", "begin": "(self)", "keep": "(self)", "drop": "(self)",
        },
    },
    "texts": {"Setting": {"__init__": "(self, line, jumble)", "__eq__": "(self, other)", "__str__": "(self)", "read": "(text)"}},
    "desk": {"Desk": {"__init__": "(self, line, jumble, first=0)", "ask": "(self, text)", "run": "(self, text)"}},
}

# All other classes stand below none.
BASES = {"PlainReader": "Reader", "LossReader": "Reader", "AgainReader": "Reader", "UnreadReader": "Reader"}


class TestInterface(unittest.TestCase):

    def test_functions(self):
        for file, names in FUNCTIONS.items():
            module = importlib.import_module("jumblepost." + file)
            for name, signature in names.items():
                function = vars(module)[name]
                self.assertTrue(inspect.isfunction(function), name)
                self.assertEqual(function.__module__, module.__name__)
                self.assertEqual(str(inspect.signature(function)), signature, name)

    def test_classes(self):
        for file, names in CLASSES.items():
            module = importlib.import_module("jumblepost." + file)
            for name, methods in names.items():
                told = vars(module)[name]
                self.assertTrue(inspect.isclass(told), name)
                self.assertEqual(told.__module__, module.__name__)
                self.assertEqual([base.__name__ for base in told.__bases__], [BASES.get(name, "object")])
                for method, signature in methods.items():
                    self.assertIn(method, vars(told), name)
                    if signature is not None:
                        self.assertEqual(str(inspect.signature(getattr(told, method))), signature, (name, method))


if __name__ == "__main__":
    unittest.main()
