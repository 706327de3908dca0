"""Orders, overtakings, codes, rings and blocks, against plain rules."""

import itertools
import math
import unittest

from tests.values import led_to, least, pairs_over
from wiredorders.blocks import blocks, counts_table, gaps, side_by_side
from wiredorders.codes import code, is_code, number_of, order_with, order_with_code, orders
from wiredorders.orders import (
    is_order, is_row, last_order, led, led_on, opposite, order_behind, plain_order, renamed, swapped, turned_about,
    turned_over,
)
from wiredorders.overtakings import (
    are_overtakings, falls, is_least_row, order_by, overtakings, size_of, some_row,
)
from wiredorders.rings import order_with_rings, period, power, rings, sign

FEW = [order for many in range(1, 6) for order in itertools.permutations(range(many))]
PLAIN, LAST = tuple(range(30)), tuple(range(29, -1, -1))
MIXED = tuple(7 * place % 31 - 1 for place in range(1, 31))
LONG = (0, 28, 14, 3, 3, 9, 28, 1, 2) * 50


class Orders(unittest.TestCase):
    def test_plain_and_last(self):
        for many in range(1, 31):
            self.assertEqual(plain_order(many), tuple(range(many)))
            self.assertEqual(last_order(many), tuple(range(many))[::-1])
            self.assertTrue(is_order(plain_order(many)))
        self.assertEqual((plain_order(1), last_order(1)), ((0,), (0,)))

    def test_few(self):
        for order in FEW:
            many = len(order)
            self.assertEqual(opposite(order), tuple(order.index(thing) for thing in range(many)))
            self.assertEqual(turned_about(order), tuple(reversed(order)))
            self.assertEqual(turned_over(order), tuple(many - 1 - thing for thing in order))
            for other in itertools.permutations(range(many)):
                self.assertEqual(led(order, other), tuple(order[thing] for thing in other))
            for at in range(many - 1):
                self.assertEqual(swapped(order, at), led_to(many, [at], order))
                names = {at: at + 1, at + 1: at}
                self.assertEqual(renamed(order, at), tuple(names.get(thing, thing) for thing in order))

    def test_thirty(self):
        self.assertEqual((opposite(LAST), turned_about(PLAIN), turned_over(PLAIN)), (LAST, LAST, LAST))
        self.assertEqual((led(LAST, LAST), led(MIXED, opposite(MIXED))), (PLAIN, PLAIN))
        self.assertEqual(swapped(PLAIN, 28)[28:], (29, 28))
        self.assertEqual(renamed(LAST, 28)[:2], (28, 29))

    def test_rows(self):
        for many, length in ((1, 0), (2, 4), (3, 4), (4, 3)):
            for row in itertools.product(range(many - 1), repeat=length):
                self.assertTrue(is_row(many, row))
                self.assertEqual(order_behind(many, row), led_to(many, row))
                self.assertEqual(led_on(tuple(range(many))[::-1], row), led_to(many, row, range(many - 1, -1, -1)))
        self.assertEqual(len(LONG), 450)
        self.assertTrue(is_row(30, LONG))
        self.assertFalse(is_row(30, LONG + (0,)))
        self.assertFalse(is_row(29, LONG))
        self.assertEqual(order_behind(30, LONG), led_to(30, LONG))
        self.assertEqual(led_on(MIXED, LONG), led_to(30, LONG, MIXED))
        self.assertEqual((led_on(MIXED, ()), order_behind(30, ()), order_behind(1, ())), (MIXED, PLAIN, (0,)))


class Overtakings(unittest.TestCase):
    def test_few(self):
        for order in FEW:
            many = len(order)
            self.assertEqual(overtakings(order), pairs_over(order))
            self.assertEqual(size_of(order), len(pairs_over(order)))
            self.assertEqual(falls(order), [at for at in range(many - 1) if order[at] > order[at + 1]])
            pairs = tuple(pairs_over(order))
            self.assertTrue(are_overtakings(many, pairs))
            self.assertEqual(order_by(many, pairs), order)
            self.assertEqual(led_to(many, some_row(order)), order)
            self.assertEqual(len(some_row(order)), len(pairs))

    def test_all_lots_of_pairs(self):
        for many in (1, 2, 3, 4):
            right = [tuple(pairs_over(order)) for order in itertools.permutations(range(many))]
            every = list(itertools.combinations(range(many), 2))
            for count in range(len(every) + 1):
                for pairs in itertools.combinations(every, count):
                    self.assertEqual(are_overtakings(many, pairs), pairs in right)
                    self.assertEqual(are_overtakings(many, pairs[::-1]), pairs[::-1] in right)

    def test_thirty(self):
        self.assertEqual((size_of(PLAIN), size_of(LAST), len(falls(LAST)), falls(PLAIN)), (0, 435, 29, []))
        self.assertEqual((order_by(30, ()), order_by(30, tuple(overtakings(LAST)))), (PLAIN, LAST))
        self.assertEqual(order_by(30, tuple(overtakings(MIXED))), MIXED)
        self.assertEqual(order_behind(30, some_row(LAST)), LAST)
        self.assertEqual((len(some_row(LAST)), some_row(PLAIN)), (435, ()))
        self.assertTrue(is_least_row(30, some_row(LAST)))
        self.assertFalse(is_least_row(30, LONG))
        self.assertFalse(is_least_row(30, some_row(LAST) + (0,)))

    def test_least(self):
        for many, length in ((1, 0), (2, 3), (3, 4), (4, 4), (4, 6)):
            for row in itertools.product(range(many - 1), repeat=length):
                self.assertEqual(is_least_row(many, row), least(many, row))


class Codes(unittest.TestCase):
    def test_few(self):
        for many in range(1, 6):
            every = list(itertools.permutations(range(many)))
            self.assertEqual(orders(many), every)
            for number, order in enumerate(every):
                told = tuple(sum(other < thing for other in order[at:]) for at, thing in enumerate(order))
                self.assertEqual(code(order), told)
                self.assertTrue(is_code(told))
                self.assertEqual(order_with_code(told), order)
                self.assertEqual(number_of(order), number)
                self.assertEqual(order_with(many, number), order)

    def test_all_tuples(self):
        for many in (1, 2, 3, 4):
            right = [code(order) for order in itertools.permutations(range(many))]
            for value in itertools.product(range(-1, many + 1), repeat=many):
                self.assertEqual(is_code(value), value in right)

    def test_thirty(self):
        most = math.factorial(30)
        self.assertEqual((number_of(PLAIN), number_of(LAST)), (0, most - 1))
        self.assertEqual((order_with(30, 0), order_with(30, most - 1)), (PLAIN, LAST))
        self.assertEqual(order_with(30, number_of(MIXED)), MIXED)
        self.assertEqual(order_with_code(code(MIXED)), MIXED)
        self.assertEqual(code(LAST), tuple(range(29, -1, -1)))
        self.assertFalse(is_code((0,) * 31))
        self.assertEqual(order_with_code((0,) * 30), PLAIN)

    def test_seven(self):
        self.assertEqual(orders(7), list(itertools.permutations(range(7))))


class Rings(unittest.TestCase):
    def test_few(self):
        for order in FEW:
            many = len(order)
            found = rings(order)
            self.assertEqual(found, sorted(found))
            self.assertEqual(sorted(thing for ring in found for thing in ring), list(range(many)))
            for ring in found:
                self.assertEqual(ring[0], min(ring))
                for at, thing in enumerate(ring):
                    self.assertEqual(order[ring[at - 1]], thing)
            self.assertEqual(sign(order), math.prod(1 if len(ring) % 2 else -1 for ring in found))
            held, times = order, 1
            while held != tuple(range(many)):
                held, times = led(held, order), times + 1
            self.assertEqual(period(order), times)

    def test_powers(self):
        for order in FEW:
            held = back = tuple(range(len(order)))
            for number in range(8):
                self.assertEqual(power(order, number), held)
                self.assertEqual(power(order, -number), back)
                held, back = led(held, order), led(back, opposite(order))

    def test_great_powers(self):
        for order in (MIXED, LAST, (1, 2, 0, 4, 3), (0,)):
            for number in (10 ** 30, -10 ** 30, 10 ** 30 - 1):
                self.assertEqual(power(order, number), power(order, number % period(order)))
        self.assertEqual((power(PLAIN, 10 ** 30), power(LAST, 10 ** 30), power(LAST, 1 - 10 ** 30)), (PLAIN, PLAIN, LAST))

    def test_order_with_rings(self):
        for order in FEW:
            many, found = len(order), rings(order)
            longer = [ring for ring in found if len(ring) > 1]
            for value in (found, tuple(found), longer, tuple(longer[::-1]), found[::-1]):
                self.assertEqual(order_with_rings(many, value), order)
            self.assertEqual(order_with_rings(many, [ring[1:] + ring[:1] for ring in found]), order)
        self.assertEqual(order_with_rings(30, []), PLAIN)
        self.assertEqual(order_with_rings(30, rings(MIXED)), MIXED)
        self.assertEqual(order_with_rings(30, (tuple(range(30)),)), tuple(range(1, 30)) + (0,))

    def test_thirty(self):
        self.assertEqual((period(PLAIN), period(LAST), sign(LAST), sign(PLAIN)), (1, 2, -1, 1))
        self.assertEqual(rings(LAST), [(at, 29 - at) for at in range(15)])
        parts = [(0, 1), (2, 3, 4), (5, 6, 7, 8, 9), tuple(range(10, 17)), tuple(range(17, 30))]
        self.assertEqual(period(order_with_rings(30, parts)), 2 * 3 * 5 * 7 * 13)


class Blocks(unittest.TestCase):
    def test_few(self):
        for order in FEW:
            many = len(order)
            told = [at for at in range(1, many) if set(order[:at]) == set(range(at))]
            self.assertEqual(gaps(order), told)
            parts = blocks(order)
            self.assertEqual(len(parts), len(told) + 1)
            self.assertTrue(all(is_order(part) and gaps(part) == [] for part in parts))
            joined = parts[0]
            for part in parts[1:]:
                joined = side_by_side(joined, part)
            self.assertEqual(joined, order)
            table = counts_table(order)
            self.assertEqual((len(table), [len(counts) for counts in table]), (many + 1, [many + 1] * (many + 1)))
            for places, bound in itertools.product(range(many + 1), repeat=2):
                self.assertEqual(table[places][bound], sum(thing < bound for thing in order[:places]))
            self.assertTrue(all(type(counts) is tuple for counts in table))

    def test_thirty(self):
        self.assertEqual((gaps(PLAIN), gaps(LAST)), (list(range(1, 30)), []))
        self.assertEqual((blocks(PLAIN), blocks(LAST)), ([(0,)] * 30, [LAST]))
        self.assertEqual(side_by_side(tuple(range(29)), (0,)), PLAIN)
        self.assertEqual(counts_table(LAST)[1], (0,) * 30 + (1,))
        self.assertEqual(counts_table((0,)), ((0, 0), (0, 1)))
