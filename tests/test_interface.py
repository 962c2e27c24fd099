"""The interface: each name stands in its file, with its parameters and its methods."""

import importlib
import inspect
import unittest

FUNCTIONS = {
    "look_zones": {
        "look_placing": "(places, zone)", "look_ring": "(ring, zone)", "look_chain": "(chain, zone, row)",
    },
    "lying": {
        "zone_of": "(sheet, station, turned=False)", "cell_places": "(sheet, places, turned=False)",
        "view_at": "(sheet, station, places, turned=False)",
    },
    "views": {
        "view_tree": "(sheet, station, turned=False)", "each_sight": "(sheet, station)", "views": "(sheet, station)",
        "edge_ranges": "(sheet, station, view)",
    },
    "look_views": {"look_sight": "(sight, sheet, station)", "look_tree": "(tree, sheet, station, turned=False)"},
    "printed": {
        "count_printed": "(stamp, pattern)", "printed": "(stamp, pattern, index)", "next_printed": "(stamp, pattern, number)",
    },
    "looks": {
        "look_of": "(view, text)", "looks": "(line, number)", "shows": "(line, number, look)", "is_look": "(line, look)",
        "common_looks": "(line, one, other)", "are_alike": "(line, one, other)", "next_shown": "(line, look, number)",
    },
    "sightings": {
        "sighting": "(line, number, look)", "sightings": "(line, number)", "alike": "(line, one, other)",
    },
}

CLASSES = {
    "rows": {
        "Row": {"__init__": "(self, one, other, most)", "__invert__": "(self)", "__eq__": "(self, other)", "holds": "(self, places)", "__str__": "(self)", "read": "(text)"},
    },
    "zones": {
        "Ring": {"__init__": "(self, rows)", "__eq__": "(self, other)"},
        "Chain": {"__init__": "(self, rows)", "__eq__": "(self, other)"},
        "Zone": {
            "__init__": "(self, points, width, rows=())", "__and__": "(self, other)", "__contains__": "(self, x)", "__bool__": "(self)", "__eq__": "(self, other)",
            "gap": "(self, one, other)", "lowest": "(self)", "highest": "(self)", "placings": "(self)", "ring": "(self)", "chain": "(self, one, other)",
        },
    },
    "sheets": {
        "Panel": {"__init__": "(self, least, most)", "slack": None, "firm": "(length)", "__eq__": "(self, other)"},
        "Cell": {"__init__": "(self, panel, end, offset, width=1)", "__eq__": "(self, other)"},
        "Sheet": {"__init__": "(self, panels, ahead, cells)", "__len__": "(self)", "__eq__": "(self, other)", "__str__": "(self)", "read": "(text)", "MOST_PANELS": None, "MOST_CELLS": None},
    },
    "stations": {
        "Station": {"__init__": "(self, width, panes, rows=(), either=False)", "pushed": "(self, *rows)", "__eq__": "(self, other)", "__str__": "(self)", "read": "(text)", "MOST_PANES": None, "WIDEST": None},
    },
    "views": {"Sight": {"__init__": "(self, view, places, turned)", "__eq__": "(self, other)"}},
    "wheels": {
        "Wheel": {"__init__": "(self, faces, lag=0, lead=0)", "digits": "(size=10, lag=0, lead=0)", "may": "(self, due, band=0)", "__eq__": "(self, other)", "__str__": "(self)", "read": "(text)"},
    },
    "stamps": {
        "Stamp": {
            "__init__": "(self, *wheels)", "digits": "(*sizes)", "__len__": "(self)", "__iter__": "(self)", "__getitem__": "(self, at)", "figures": "(self, number)",
            "standings": "(self, number)", "prints": "(self, number)", "value": "(self, figures)", "print_of": "(self, figures)", "band": "(self, index, due)",
            "cell": "(self, sign)", "__eq__": "(self, other)", "__str__": "(self)", "read": "(text)",
        },
    },
    "lines": {
        "Line": {"__init__": "(self, sheet, stamp, *stations)", "sights_of": "(self, view)", "beside": "(self, *stations)", "stamped": "(self, stamp)", "__eq__": "(self, other)", "MOST_STATIONS": None, "MOST_VIEWS": None},
    },
    "sightings": {
        "Sighting": {"__init__": "(self, number, standing, sights, look)", "__eq__": "(self, other)"},
        "Alike": {"__init__": "(self, one, other)", "distance": None, "__eq__": "(self, other)"},
    },
}


class TestInterface(unittest.TestCase):

    def test_functions(self):
        for file, names in FUNCTIONS.items():
            module = importlib.import_module("jumblepost." + file)
            for name, signature in names.items():
                function = vars(module)[name]
                self.assertTrue(inspect.isfunction(function), name)
                self.assertEqual(function.__module__, module.__name__)
                self.assertEqual(str(inspect.signature(function)), signature, name)

    def test_classes(self):
        for file, names in CLASSES.items():
            module = importlib.import_module("jumblepost." + file)
            for name, methods in names.items():
                told = vars(module)[name]
                self.assertTrue(inspect.isclass(told), name)
                self.assertEqual((told.__module__, told.__bases__), (module.__name__, (object,)))
                for method, signature in methods.items():
                    self.assertIn(method, vars(told), name)
                    if signature is not None:
                        self.assertEqual(str(inspect.signature(getattr(told, method))), signature, (name, method))


if __name__ == "__main__":
    unittest.main()
