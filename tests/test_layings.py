"""Layings, sixes and tilings, against plain rules."""

import itertools
import unittest

from tests.values import ANY, all_layings, all_orders, all_rows, all_sixes, laid, led_to, pairs_over, right_laying
from wiredorders.layings import (
    comes_behind, count_layings, count_rows_of, first_row_of, is_laying, laying_of_row, layings,
)
from wiredorders.orders import last_order, plain_order, turned_about, turned_over
from wiredorders.overtakings import some_row
from wiredorders.roads import road_of
from wiredorders.sixes import high_triples, laying_high, six_turned, sixes, turns_between
from wiredorders.tilings import count_roads, laying_mirrored, orders_within, points_of
from wiredorders.triples import triples_of

FEW = [order for many in (1, 2, 3, 4) for order in all_orders(many)]
SOME = [(3, 0, 4, 1, 2), (4, 1, 3, 0, 2), (2, 4, 3, 1, 0), (4, 3, 2, 1, 0), (1, 0, 4, 3, 2)]
Z, LAST = (3, 2, 1, 0), last_order(30)


def rows_laid(order):
    """Return the dict of the ascending lists of the rows of all layings."""
    found = {}
    for row in all_rows(order):
        found.setdefault(tuple(sorted(laid(len(order), row))), []).append(row)
    return found


class Layings(unittest.TestCase):
    def test_all(self):
        for order in FEW + SOME:
            told = rows_laid(order)
            self.assertEqual(layings(order), sorted(told))
            self.assertEqual(count_layings(order), len(told))
            for laying, rows in told.items():
                self.assertTrue(is_laying(order, laying))
                self.assertEqual(first_row_of(order, laying), rows[0])
                self.assertEqual(count_rows_of(order, laying), len(rows))
                for row in rows:
                    self.assertEqual(laying_of_row(len(order), row), laying)

    def test_counts(self):
        self.assertEqual([count_layings(last_order(many)) for many in (1, 2, 3, 4, 5, 6)], [1, 1, 2, 8, 62, 908])
        self.assertEqual(count_layings((5, 0, 1, 2, 3, 4)), 1)
        self.assertEqual(layings((0,)), [()])

    def test_rows_come_to_all_rows(self):
        for order in SOME:
            counts = [count_rows_of(order, laying) for laying in layings(order)]
            self.assertEqual(sum(counts), len(all_rows(order)))
        self.assertEqual(count_rows_of(plain_order(7), ()), 1)
        self.assertEqual(count_rows_of((1, 0, 3, 2, 5, 4, 6), laying_of_row(7, (0, 2, 4))), 6)

    def test_is_laying_of_all_lots_of_squares(self):
        for order in FEW:
            many, size = len(order), len(pairs_over(order))
            if size <= 3:
                for lot in itertools.combinations(self.all_squares(many), size):
                    self.assertIs(is_laying(order, lot), lot in all_layings(order))
                    self.assertFalse(size > 1 and is_laying(order, lot[::-1]))

    def all_squares(self, many):
        points = [point for size in range(many) for point in itertools.combinations(range(many), size)]
        return [
            (base, x, y) for base in sorted(points) for x in range(many) for y in range(x + 1, many)
            if not {x, y} & set(base)
        ]

    def test_is_laying_with_a_square_changed(self):
        for laying in all_layings(Z):
            for at, square in itertools.product(range(6), self.all_squares(4)):
                other = tuple(sorted(laying[:at] + (square,) + laying[at + 1:]))
                self.assertIs(is_laying(Z, other), other in all_layings(Z))
            self.assertFalse(is_laying(Z, laying[:5]))
            self.assertFalse(is_laying((3, 2, 0, 1), laying))
            self.assertFalse(is_laying(Z, laying + laying[5:]))
            self.assertFalse(is_laying(Z, laying + (((3,), 0, 1),)))
            self.assertFalse(is_laying(Z, list(laying)))

    def test_any_value(self):
        for order in ((0,), (1, 0), (2, 0, 1), (2, 1, 0), (1, 0, 2)):
            for index, value in enumerate(ANY):
                self.assertIs(is_laying(order, value), right_laying(order, value), f"{order}, value {index}")

    def test_comes_behind(self):
        for order in FEW + SOME[:2]:
            for laying, rows in rows_laid(order).items():
                puttings = [laid(len(order), row) for row in rows]
                for square, other in itertools.product(laying, repeat=2):
                    told = square != other and all(put.index(square) < put.index(other) for put in puttings)
                    self.assertIs(comes_behind(order, laying, square, other), told)

    def test_thirty_things(self):
        row = some_row(LAST)
        laying = laying_of_row(30, row)
        self.assertEqual(laying, tuple(sorted(laid(30, row))))
        self.assertTrue(is_laying(LAST, laying))
        self.assertEqual(led_to(30, first_row_of(LAST, laying)), LAST)
        low = laying_high(LAST, ())
        far = (tuple(range(1, 29)), 0, 29)
        self.assertTrue(comes_behind(LAST, low, ((), 0, 1), far))
        self.assertFalse(comes_behind(LAST, low, far, ((), 0, 1)))
        self.assertFalse(comes_behind(LAST, low, far, far))
        self.assertEqual(len(points_of(LAST, laying)), 31 + 435)
        self.assertEqual(laying_mirrored(LAST, laying_mirrored(LAST, laying)), laying)


class Sixes(unittest.TestCase):
    def test_sixes_and_turning(self):
        for order in FEW + SOME:
            told = layings(order)
            for laying in told:
                found = sixes(order, laying)
                self.assertEqual(found, all_sixes(len(order), laying))
                high = set(high_triples(order, laying))
                for six in found:
                    turned = six_turned(order, laying, six)
                    self.assertIn(turned, told)
                    self.assertEqual(len(set(turned) - set(laying)), 3)
                    self.assertEqual(all_sixes(len(order), turned).count(six), 1)
                    self.assertEqual(six_turned(order, turned, six), laying)
                    self.assertEqual(high ^ set(high_triples(order, turned)), {six[1:]})

    def test_high(self):
        for order in FEW + SOME:
            known = {}
            for laying in layings(order):
                bases = {square[1:]: square[0] for square in laying}
                high = [three for three in triples_of(order) if three[1] not in bases[three[0], three[2]]]
                self.assertEqual(high_triples(order, laying), high)
                known[tuple(high)] = laying
            self.assertEqual(len(known), len(layings(order)))
            every = triples_of(order)
            for size in range(len(every) + 1):
                for lot in itertools.combinations(every, size):
                    self.assertEqual(laying_high(order, lot), known.get(lot))

    def test_last_order(self):
        for many in (1, 2, 3, 4, 5):
            order = last_order(many)
            every = triples_of(order)
            self.assertEqual(high_triples(order, laying_high(order, ())), [])
            self.assertEqual(high_triples(order, laying_high(order, tuple(every))), every)
        self.assertEqual(high_triples(LAST, laying_high(LAST, ())), [])
        self.assertEqual(len(sixes(LAST, laying_high(LAST, ()))), 28)
        one = six_turned(LAST, laying_high(LAST, ()), ((), 0, 1, 2))
        self.assertEqual(high_triples(LAST, one), [(0, 1, 2)])
        self.assertEqual(laying_high(LAST, ((0, 1, 2),)), one)

    def test_high_any_value(self):
        for order in ((0,), (2, 1, 0), (2, 0, 1)):
            right = [(), ((0, 1, 2),)] if order == (2, 1, 0) else [()]
            for index, value in enumerate(ANY):
                laying = laying_high(order, value)
                self.assertEqual(laying is not None, type(value) is tuple and value in right, f"value {index}")
        self.assertIsNone(laying_high((2, 1, 0), [(0, 1, 2)]))
        self.assertIsNone(laying_high(Z, ((0, 1, 3), (0, 1, 2))))
        self.assertIsNone(laying_high(Z, ((0, 2, 3),)))

    def test_turns_between(self):
        for order in FEW + SOME[:3]:
            told = layings(order)
            beside = {laying: [six_turned(order, laying, six) for six in sixes(order, laying)] for laying in told}
            for laying in told:
                far = {laying: 0}
                queue = [laying]
                for held in queue:
                    for reached in beside[held]:
                        if reached not in far:
                            far[reached] = far[held] + 1
                            queue.append(reached)
                self.assertEqual(len(far), len(told))
                for other in told:
                    self.check_turns(order, laying, other, far[other])

    def check_turns(self, order, laying, other, many):
        turns = turns_between(order, laying, other)
        self.assertIs(type(turns), tuple)
        self.assertEqual(len(turns), many)
        for six in turns:
            self.assertIn(six, sixes(order, laying))
            laying = six_turned(order, laying, six)
        self.assertEqual(laying, other)

    def test_the_farthest_turns(self):
        order = last_order(5)
        turns = turns_between(order, laying_high(order, ()), laying_high(order, tuple(triples_of(order))))
        self.assertEqual(len(turns), 10)


class Tilings(unittest.TestCase):
    def test_points_and_roads(self):
        for order in FEW + SOME:
            many = len(order)
            for laying, rows in rows_laid(order).items():
                on_ways = {led_to(many, row[:at]) for row in rows for at in range(len(row) + 1)}
                points = {point for other in on_ways | {plain_order(many)} for point in road_of(other)}
                self.assertEqual(points_of(order, laying), sorted(points))
                self.assertEqual(len(points), many + 1 + len(laying))
                self.assertEqual(count_roads(order, laying), len(on_ways))
                self.assertEqual(orders_within(order, laying), sorted(on_ways))

    def test_roads_of_more_things(self):
        self.assertEqual(count_roads((1, 0, 3, 2, 5, 4, 6), laying_of_row(7, (0, 2, 4))), 8)
        self.assertEqual(count_roads(plain_order(7), ()), 1)
        self.assertEqual(orders_within(plain_order(6), ()), [plain_order(6)])
        self.assertEqual(count_roads(last_order(7), laying_high(last_order(7), ())), 64)

    def test_mirrored(self):
        for order in FEW + SOME:
            over = turned_over(turned_about(order))
            last = len(order) - 1
            for laying in layings(order):
                mirrored = laying_mirrored(order, laying)
                told = [
                    (tuple(sorted({last - t for t in range(last + 1)} - {last - t for t in (*base, x, y)})), last - y, last - x)
                    for base, x, y in laying
                ]
                self.assertEqual(mirrored, tuple(sorted(told)))
                self.assertTrue(is_laying(over, mirrored))
                self.assertEqual(laying_mirrored(over, mirrored), laying)


if __name__ == "__main__":
    unittest.main()
