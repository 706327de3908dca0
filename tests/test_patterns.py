"""Patterns and their spots, against plain rules."""

import itertools
import math
import random
import unittest

from tests.values import all_orders
from wiredorders.orders import last_order, opposite, plain_order, turned_about, turned_over
from wiredorders.patterns import count_spots, count_without, has_pattern, orders_without, spots

PATTERNS = [pattern for many in range(1, 5) for pattern in all_orders(many)]
M = (3, 0, 4, 1, 2)


def like(things):
    """Return the order in which some things stand: each one's number among them."""
    return tuple(sorted(things).index(thing) for thing in things)


def spots_told(order, pattern):
    every = itertools.combinations(range(len(order)), len(pattern))
    return [places for places in every if like([order[place] for place in places]) == pattern]


class Patterns(unittest.TestCase):
    def test_few(self):
        for order in [order for many in range(1, 6) for order in all_orders(many)]:
            for pattern in PATTERNS + all_orders(5)[::17]:
                told = spots_told(order, pattern)
                self.assertEqual(spots(order, pattern), told)
                self.assertEqual(count_spots(order, pattern), len(told))
                self.assertIs(has_pattern(order, pattern), told != [])

    def test_twelve_things(self):
        chance = random.Random(11)
        for pattern in [(0,), (1, 0), (0, 2, 1), (2, 0, 3, 1)] + all_orders(5)[::20]:
            for order in (last_order(12), plain_order(12), tuple(chance.sample(range(12), 12))):
                told = spots_told(order, pattern)
                self.assertEqual(spots(order, pattern), told)
                self.assertEqual(count_spots(order, pattern), len(told))
        self.assertEqual(count_spots(plain_order(12), (0, 1, 2, 3, 4)), math.comb(12, 5))
        self.assertEqual(spots((0, 1), (0, 1, 2)), [])

    def test_thirty_things(self):
        chance = random.Random(12)
        for pattern in PATTERNS:
            for size in (13, 20, 30):
                order = tuple(chance.sample(range(size), size))
                self.assertIs(has_pattern(order, pattern), self.any_spot(order, pattern))
        self.assertTrue(has_pattern(plain_order(30), (0, 1, 2, 3, 4)))
        self.assertFalse(has_pattern(plain_order(30), (0, 1, 2, 4, 3)))
        self.assertTrue(has_pattern(plain_order(28) + (29, 28), (0, 1, 2, 4, 3)))
        self.assertTrue(has_pattern((1, 0) + tuple(range(2, 30)), (1, 0, 2, 3, 4)))
        self.assertFalse(has_pattern(last_order(30), (0, 1)))

    def any_spot(self, order, pattern):
        every = itertools.combinations(order, len(pattern))
        return any(like(things) == pattern for things in every)

    def test_without(self):
        every = {many: all_orders(many) for many in range(1, 7)}
        lots = [(pattern,) for pattern in PATTERNS] + [
            ((0, 1, 2), (2, 1, 0)), ((0, 1), (1, 0)), ((1, 0, 3, 2),) * 6, ((0, 1, 2, 3, 4), (0, 2, 1)),
            ((3, 1, 4, 0, 2), (1, 0, 2, 3), (0, 3, 2, 1)), tuple(all_orders(3)), tuple(all_orders(5)[:6]),
        ]
        for lot in lots:
            for many in range(1, 7):
                told = [order for order in every[many] if not any(spots_told(order, pattern) for pattern in lot)] if many < 6 else None
                found = orders_without(many, lot)
                self.assertEqual(count_without(many, lot), len(found))
                self.assertEqual(found, [order for order in every[many] if not any(has_pattern(order, each) for each in lot)])
                self.assertTrue(told is None or found == told)
        self.assertEqual(orders_without(1, ((0,),)), [])
        self.assertEqual(count_without(7, ((0,), (0, 1))), 0)

    def test_counts(self):
        for pattern in all_orders(3):
            self.assertEqual([count_without(many, (pattern,)) for many in range(1, 8)], [1, 2, 5, 14, 42, 132, 429])
        self.assertEqual([count_without(many, ((1, 0, 3, 2), (2, 3, 0, 1))) for many in range(1, 8)], [1, 2, 6, 22, 86, 340, 1340])
        self.assertEqual(count_without(7, ((0, 1, 2, 3, 4),)), 4582)
        self.assertEqual(count_without(7, ((0, 2, 1, 4, 3), (4, 3, 2, 1, 0), (0, 1, 2), (2, 1, 0))), 0)

    def test_statements(self):
        for order in [order for many in (1, 2, 3, 4, 5) for order in all_orders(many)] + [(5, 2, 0, 4, 1, 3), (1, 3, 5, 0, 2, 4)]:
            for pattern in PATTERNS[:-4] + [M]:
                told = has_pattern(order, pattern)
                self.assertIs(has_pattern(opposite(order), opposite(pattern)), told)
                self.assertIs(has_pattern(turned_about(order), turned_about(pattern)), told)
                self.assertIs(has_pattern(turned_over(order), turned_over(pattern)), told)
        for many in range(1, 7):
            for pattern in PATTERNS[::3] + [M]:
                total = sum(count_spots(order, pattern) for order in all_orders(many))
                self.assertEqual(total, math.factorial(many) // math.factorial(len(pattern)) * math.comb(many, len(pattern)) if len(pattern) <= many else 0)


if __name__ == "__main__":
    unittest.main()
