"""The interface: each name stands in its file, with its parameters and its methods."""

import importlib
import inspect
import unittest

FUNCTIONS = {
    "look_zones": {
        "look_placing": "(places, zone)", "look_ring": "(ring, zone)", "look_chain": "(chain, zone, row)",
    },
    "lying": {
        "zone_of": "(sheet, station, turned=False)", "cell_places": "(sheet, places, turned=False)",
        "view_at": "(sheet, station, places, turned=False)",
    },
}

CLASSES = {
    "rows": {
        "Row": {"__init__": "(self, one, other, most)", "__invert__": "(self)", "__eq__": "(self, other)", "holds": "(self, places)", "__str__": "(self)", "read": "(text)"},
    },
    "zones": {
        "Ring": {"__init__": "(self, rows)", "__eq__": "(self, other)"},
        "Chain": {"__init__": "(self, rows)", "__eq__": "(self, other)"},
        "Zone": {
            "__init__": "(self, points, width, rows=())", "__and__": "(self, other)", "__contains__": "(self, x)", "__bool__": "(self)", "__eq__": "(self, other)",
            "gap": "(self, one, other)", "lowest": "(self)", "highest": "(self)", "placings": "(self)", "ring": "(self)", "chain": "(self, one, other)",
        },
    },
    "sheets": {
        "Panel": {"__init__": "(self, least, most)", "slack": None, "firm": "(length)", "__eq__": "(self, other)"},
        "Cell": {"__init__": "(self, panel, end, offset, width=1)", "__eq__": "(self, other)"},
        "Sheet": {"__init__": "(self, panels, ahead, cells)", "__len__": "(self)", "__eq__": "(self, other)", "__str__": "(self)", "read": "(text)", "MOST_PANELS": None, "MOST_CELLS": None},
    },
    "stations": {
        "Station": {"__init__": "(self, width, panes, rows=(), either=False)", "pushed": "(self, *rows)", "__eq__": "(self, other)", "__str__": "(self)", "read": "(text)", "MOST_PANES": None, "WIDEST": None},
    },
}


class TestInterface(unittest.TestCase):

    def test_functions(self):
        for file, names in FUNCTIONS.items():
            module = importlib.import_module("jumblepost." + file)
            for name, signature in names.items():
                function = vars(module)[name]
                self.assertTrue(inspect.isfunction(function), name)
                self.assertEqual(function.__module__, module.__name__)
                self.assertEqual(str(inspect.signature(function)), signature, name)

    def test_classes(self):
        for file, names in CLASSES.items():
            module = importlib.import_module("jumblepost." + file)
            for name, methods in names.items():
                told = vars(module)[name]
                self.assertTrue(inspect.isclass(told), name)
                self.assertEqual((told.__module__, told.__bases__), (module.__name__, (object,)))
                for method, signature in methods.items():
                    self.assertIn(method, vars(told), name)
                    if signature is not None:
                        self.assertEqual(str(inspect.signature(getattr(told, method))), signature, (name, method))


if __name__ == "__main__":
    unittest.main()
