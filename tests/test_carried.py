"""Orders carried from weight to size and from rings to tops, against plain rules."""

import random
import unittest

from tests.values import all_orders
from wiredorders.countcarried import rings_to_tops, size_to_weight, tops_to_rings, weight_to_size
from wiredorders.countwords import word_number
from wiredorders.orders import last_order, opposite, plain_order
from wiredorders.overtakings import falls
from wiredorders.rings import rings

FEW = [order for many in range(1, 7) for order in all_orders(many)]
CHANCE = random.Random(10)
LONG = [tuple(CHANCE.sample(range(30), 30)) for _ in range(20)] + [last_order(30), plain_order(30)]


def parted(row, thing):
    """Return the parts of a row: behind each lesser thing if the last one is less, otherwise behind each greater one."""
    parts = [[]]
    for other in row:
        parts[-1].append(other)
        if other < thing if row[-1] < thing else other > thing:
            parts.append([])
    return parts[:-1]


def carried(order):
    row = []
    for thing in order:
        row = [other for part in parted(row, thing) for other in part[-1:] + part[:-1]] + [thing]
    return tuple(row)


def rings_written(order):
    """Return the rings, each from its greatest thing on, those with lesser greatest things first."""
    told = []
    for ring in sorted(rings(order), key=max):
        while ring[0] != max(ring):
            ring = ring[1:] + ring[:1]
        told += ring
    return tuple(told)


class Carried(unittest.TestCase):
    def test_weight_to_size(self):
        for order in FEW + LONG:
            behind = weight_to_size(order)
            self.assertEqual(behind, carried(order))
            self.assertEqual(size_to_weight(behind), order)
            self.assertEqual(weight_to_size(size_to_weight(order)), order)
            self.assertEqual(word_number("size", behind), word_number("weight", order))
            self.assertEqual(falls(opposite(behind)), falls(opposite(order)))
            self.assertEqual(behind[-1], order[-1])

    def test_rings_to_tops(self):
        for order in FEW + LONG:
            behind = rings_to_tops(order)
            self.assertEqual(behind, rings_written(order))
            self.assertEqual(tops_to_rings(behind), order)
            self.assertEqual(rings_to_tops(tops_to_rings(order)), order)
            self.assertEqual(word_number("tops", behind), word_number("rings", order))
            self.assertEqual(word_number("falls", behind), word_number("overs", opposite(order)))

    def test_one_to_one(self):
        for many in range(1, 7):
            every = all_orders(many)
            for function in (weight_to_size, size_to_weight, rings_to_tops, tops_to_rings):
                self.assertEqual(sorted(map(function, every)), every)

    def test_edges(self):
        for function in (weight_to_size, size_to_weight, rings_to_tops, tops_to_rings):
            self.assertEqual(function((0,)), (0,))
            self.assertEqual(function(plain_order(30)), plain_order(30))
        self.assertEqual(weight_to_size(last_order(30)), last_order(30))
        self.assertEqual(rings_to_tops(last_order(4)), (2, 1, 3, 0))
        self.assertEqual(tops_to_rings(last_order(4)), (3, 0, 1, 2))
        self.assertEqual(size_to_weight((2, 0, 1)), (0, 2, 1))


if __name__ == "__main__":
    unittest.main()
