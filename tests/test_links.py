"""Links: pairs of cells at one place; unlike shapes; values that are no views."""

import itertools
import unittest

from jumblepost.links import links
from tests import tables
from tests.helpers import odd_values, raised

VIEWS = [
    (), ((),), ((), ()), ((0,),), ((1,),), ((0, 1),), ((1, 0),), ((0,), (1,)), ((2,), ()), ((), (2,)), ((3, 1), (0, 2)),
    ((0, 2), (3, 1)), ((0, 0), (0, 0)), ((0, 1, 2), (4,)), ((10 ** 60, 11), (7, 7)), ((0,), (1,), (2,)),
]


class TestLinks(unittest.TestCase):

    def test_pairs(self):
        for view, other in itertools.product(VIEWS, repeat=2):
            told = links(view, other)
            if tables.shape(view) != tables.shape(other):
                self.assertIsNone(told)
            else:
                self.assertEqual(told, tuple(tables.links(view, other)))
                self.assertIs(type(told), tuple)
        self.assertEqual(links(((0, 1), (4,)), ((1, 2), (3,))), ((0, 1), (1, 2), (4, 3)))
        self.assertEqual(links(other=((5,),), view=((2,),)), ((2, 5),))
        self.assertEqual(links((), ()), ())
        self.assertEqual(links(((), ()), ((), ())), ())

    def test_unlike_shapes(self):
        self.assertIsNone(links(((0,),), ((),)))
        self.assertIsNone(links(((0,),), ((0,), ())))
        self.assertIsNone(links(((0, 1), (2,)), ((0,), (1, 2))))
        self.assertIsNone(links((), ((),)))

    def test_wrong_values(self):
        wrong = [[(0,)], ([0],), ((0,), 0), ((True,),), ((-1,),), ((0, None),), (("0",),), "0", ((0,), ((0,),))]
        for value in wrong + [value for value in odd_values() if value != ()]:
            self.assertEqual(raised(links, value, value), ("BadValue", "view"))
            self.assertEqual(raised(links, value, ((0,),)), ("BadValue", "view"))
            self.assertEqual(raised(links, ((0,),), value), ("BadValue", "other"))


if __name__ == "__main__":
    unittest.main()
