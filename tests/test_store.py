"""Stores: against lists of the numbers put; refused numbers change nothing."""

import random
import unittest

from jumblepost.store import Store
from tests.helpers import odd_values, raised

MOST = 10 ** 60 - 1


def state(store):
    return store.late, store.held, store.last, store.places, len(store)


class TestStore(unittest.TestCase):

    def check_row(self, late, numbers):
        """Puts numbers, and tells how many were refused."""
        store = Store(late)
        self.assertEqual(state(store), (late, (), None, 0, 0))
        taken = []
        released = []
        refused = 0
        for number in numbers:
            if released and number < released[-1]:
                before = state(store)
                self.assertEqual(raised(store.put, number), ("Unfit", len(taken)))
                self.assertEqual(state(store), before)
                refused += 1
                continue
            taken.append(number)
            told = store.put(number)
            rest = sorted(taken)
            if len(rest) - len(released) > late:
                released.append(rest[len(released)])
                self.assertEqual(told, released[-1])
            else:
                self.assertIsNone(told)
            held = tuple(rest[len(released):])
            self.assertEqual(state(store), (late, held, released[-1] if released else None, len(taken), len(held)))
            self.assertIs(type(store.held), tuple)
        self.assertEqual(released, sorted(released))
        return refused

    def test_random_rows(self):
        rand = random.Random(181)
        refused = 0
        for _ in range(150):
            late = rand.choice((0, 1, 2, 5, 20))
            base = rand.choice((0, 10 ** 59, MOST - 90))
            numbers = [base + max(0, at + rand.randint(-late - 1, late + 1)) for at in range(rand.randint(0, 80))]
            refused += self.check_row(late, numbers)
        self.assertGreater(refused, 50)

    def test_ascending_equal_and_great_numbers(self):
        for late in (0, 1, 3, 20):
            self.assertEqual(self.check_row(late, range(60)), 0)
            self.assertEqual(self.check_row(late, [7] * 50), 0)
            self.assertEqual(self.check_row(late, [MOST] * 30), 0)
            self.assertEqual(self.check_row(late, [0, 0, 1, 1, 2, 2, MOST, MOST]), 0)
        self.assertEqual(self.check_row(0, [3, 3, 2, 4, 3, 5]), 2)

    def test_refused_values(self):
        for value in odd_values():
            if type(value) is not int or not 0 <= value <= MOST:
                store = Store(1)
                store.put(5)
                store.put(7)
                before = state(store)
                self.assertEqual(raised(store.put, value), ("BadValue", "number"))
                self.assertEqual(state(store), before)
            if value != 0 or type(value) is not int:
                self.assertEqual(raised(Store, value), ("BadValue", "late"))
        for late in (-1, 21, True, None, "1"):
            self.assertEqual(raised(Store, late), ("BadValue", "late"))
        self.assertEqual(Store(20).late, 20)
        self.assertEqual(Store(late=0).put(number=5), 5)

    def test_the_example(self):
        store = Store(2)
        self.assertEqual([store.put(number) for number in (1, 2, 0, 3)], [None, None, 0, 1])
        self.assertEqual((store.held, store.last, len(store)), ((2, 3), 1, 2))
        self.assertEqual(raised(store.put, 0), ("Unfit", 4))
        self.assertEqual(store.put(1), 1)

    def test_stores_are_equal_to_themselves_alone(self):
        store = Store(1)
        self.assertTrue(store == store)
        self.assertFalse(store == Store(1))


if __name__ == "__main__":
    unittest.main()
