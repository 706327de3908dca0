"""Shapes, numbered tables, and the tables of orders, against plain rules."""

import collections
import itertools
import math
import unittest

from tests.values import (
    ANY, all_orders, pairs_over, put_in, right_rising, right_shape, right_table, shape_of, tables_made,
)
from wiredorders.inserted import order_of, orders_with_left, put_thing, tables_of
from wiredorders.numbered import (
    count_by_falls, count_numbered, is_numbered, is_rising, numbered_tables, numbered_with, table_falls, table_number,
    table_turned,
)
from wiredorders.orders import last_order, opposite, plain_order, turned_about, turned_over
from wiredorders.overtakings import falls
from wiredorders.shapes import count_shapes, hook_at, is_shape, shape_turned, shapes_above, shapes_with, stair

BIG_SHAPES = ((450,), (1,) * 450, (30,) * 15, stair(30), (225,) + (1,) * 225, (449, 1), (100, 100, 50, 50, 50, 50, 50))


def cells_of(shape):
    return [(line, spot) for line, length in enumerate(shape) for spot in range(length)]


def tables_with(shape):
    """Return the sorted list of all numbered tables of a shape, found by putting the greatest integer anywhere."""
    size = sum(shape)
    if size == 0:
        return [()]
    found = []
    for line in range(len(shape)):
        if line + 1 == len(shape) or shape[line] > shape[line + 1]:
            less = shape[:line] + (shape[line] - 1,) + shape[line + 1:]
            for table in tables_with(tuple(filter(None, less))):
                table += ((),) * (len(shape) - len(table))
                found.append(table[:line] + (table[line] + (size - 1,),) + table[line + 1:])
    return sorted(found)


def line_of(table, integer):
    return [integer in line for line in table].index(True)


class Shapes(unittest.TestCase):
    def test_any_value(self):
        for index, value in enumerate(ANY):
            self.assertIs(is_shape(value), right_shape(value), f"value {index}")

    def test_shapes_with(self):
        for size in range(9):
            told = {tuple(sorted(filter(None, some), reverse=True)) for some in self.sums(size)}
            self.assertEqual(shapes_with(size), sorted(told))
            self.assertEqual(count_shapes(size), len(told))
        self.assertEqual(len(shapes_with(20)), 627)
        self.assertEqual(shapes_with(20), sorted(set(shapes_with(20))))
        self.assertTrue(all(is_shape(shape) and sum(shape) == 20 for shape in shapes_with(20)))

    def sums(self, size):
        return [[]] if size == 0 else [[first] + rest for first in range(1, size + 1) for rest in self.sums(size - first)]

    def test_count_shapes(self):
        counts = [1]
        for size in range(1, 451):
            # Euler's rule of the pentagonal numbers.
            total, k = 0, 1
            while k * (3 * k - 1) // 2 <= size:
                for back in (k * (3 * k - 1) // 2, k * (3 * k + 1) // 2):
                    total += (1 if k % 2 else -1) * (counts[size - back] if back <= size else 0)
                k += 1
            counts.append(total)
        self.assertEqual([count_shapes(size) for size in range(451)], counts)

    def test_turned_and_hooks(self):
        for shape in [shape for size in range(9) for shape in shapes_with(size)] + [stair(30), (30,) * 15]:
            cells = cells_of(shape)
            turned = shape_turned(shape)
            self.assertEqual(sorted((spot, line) for line, spot in cells), cells_of(turned))
            self.assertEqual(shape_turned(turned), shape)
            for line, spot in cells[::1 + len(cells) // 50]:
                behind = [1 for at, other in cells if at == line and other > spot]
                below = [1 for at, other in cells if at > line and other == spot]
                self.assertEqual(hook_at(shape, (line, spot)), len(behind) + len(below) + 1)
        self.assertEqual(shape_turned((1,) * 450), (450,))
        self.assertEqual(hook_at((450,), (0, 0)), 450)

    def test_above(self):
        for size in range(8):
            for shape in shapes_with(size):
                told = [other for other in shapes_with(size + 1) if set(cells_of(shape)) < set(cells_of(other))]
                self.assertEqual(shapes_above(shape), told)
        self.assertEqual(shapes_above((449,)), [(449, 1), (450,)])
        self.assertEqual(shapes_above((1,) * 449), [(1,) * 450, (2,) + (1,) * 448])

    def test_stair(self):
        self.assertEqual([stair(many) for many in (1, 2, 3)], [(), (1,), (2, 1)])
        self.assertEqual(stair(30), tuple(range(29, 0, -1)))


class Numbered(unittest.TestCase):
    def test_any_value(self):
        for index, value in enumerate(ANY):
            self.assertIs(is_rising(value), right_rising(value), f"value {index}")
            self.assertIs(is_numbered(value), right_table(value), f"value {index}")

    def test_rising(self):
        for integers in itertools.product(range(3), repeat=4):
            a, b, c, d = integers
            for value in (((a, b), (c, d)), ((a, b, c), (d,)), ((a,), (b,), (c,), (d,)), ((a, b), (c,), (d,)), ((a, b, c, d),)):
                self.assertIs(is_rising(value), right_rising(value))
        for integers in itertools.permutations(range(5)):
            value = (integers[:3], integers[3:])
            self.assertIs(is_numbered(value), right_table(value))
            self.assertIs(is_rising(value), right_table(value))
        self.assertFalse(is_rising(((0, 1), (1, 2, 3))))
        self.assertFalse(is_rising(((),)))
        self.assertTrue(is_rising(((10 ** 6 - 1, 10 ** 6),)))

    def test_all_tables(self):
        for shape in [shape for size in range(8) for shape in shapes_with(size)] + [(4, 3, 2), (3, 3, 3), (9,), (1,) * 9]:
            told = tables_with(shape)
            self.assertEqual(numbered_tables(shape), told)
            self.assertEqual(count_numbered(shape), len(told))
            by_greatest = sorted(told, key=lambda table: [line_of(table, i) for i in reversed(range(sum(shape)))])
            for number, table in enumerate(by_greatest):
                self.assertEqual(table_number(table), number)
                self.assertEqual(numbered_with(shape, number), table)
            self.check_falls(shape, told)

    def check_falls(self, shape, told):
        sums = collections.Counter()
        for table in told:
            drops = [i for i in range(sum(shape) - 1) if line_of(table, i + 1) > line_of(table, i)]
            self.assertEqual(table_falls(table), drops)
            sums[sum(drops) + len(drops)] += 1
            turned = table_turned(table)
            self.assertEqual(shape_of(turned), shape_turned(shape))
            for line, spot in cells_of(shape):
                self.assertEqual(turned[spot][line], table[line][spot])
        self.assertEqual(count_by_falls(shape), tuple(sums[at] for at in range(max(sums) + 1)))

    def test_hooks_times_tables(self):
        for shape in BIG_SHAPES + ((), (1,), (5, 4, 3, 2, 1)):
            product = math.prod(hook_at(shape, cell) for cell in cells_of(shape))
            self.assertEqual(product * count_numbered(shape), math.factorial(sum(shape)))

    def test_numbers_of_big_tables(self):
        for shape in BIG_SHAPES:
            count = count_numbered(shape)
            for number in sorted({0, 1 % count, count // 3, count - 1}):
                table = numbered_with(shape, number)
                self.assertTrue(is_numbered(table))
                self.assertEqual(shape_of(table), shape)
                self.assertEqual(table_number(table), number)
        first = numbered_with((2, 2, 1), 0)
        self.assertEqual(first, ((0, 3), (1, 4), (2,)))
        self.assertEqual(numbered_with((), 0), ())
        self.assertEqual(table_number(()), 0)

    def test_by_falls_of_greater_sizes(self):
        self.assertEqual(count_by_falls(()), (1,))
        self.assertEqual(count_by_falls((20,)), (1,))
        self.assertEqual(count_by_falls((1,) * 20), (0,) * 190 + (1,))
        for shape in shapes_with(20)[::40] + [(6, 5, 4, 3, 2)]:
            counts = count_by_falls(shape)
            self.assertEqual(sum(counts), count_numbered(shape))
            self.assertGreater(counts[-1], 0)
            # Turned, a table has just the falls that it had not.
            turned = count_by_falls(shape_turned(shape))
            top = sum(range(1, 20))
            self.assertEqual([turned[at] if at < len(turned) else 0 for at in range(top + 1)][::-1],
                             [counts[at] if at < len(counts) else 0 for at in range(top + 1)])


class Inserted(unittest.TestCase):
    def test_put_thing(self):
        for order in all_orders(5):
            lines = []
            table = ()
            for thing in order:
                cell = put_in(lines, thing)
                told = tuple(map(tuple, lines))
                self.assertEqual(put_thing(table, thing), (told, cell))
                table = told
        self.assertEqual(put_thing(((10 ** 6,),), 0), (((0,), (10 ** 6,)), (1, 0)))
        self.assertEqual(put_thing(((0,),), 10 ** 6), (((0, 10 ** 6),), (0, 1)))

    def test_tables_of_all_orders(self):
        for many in (1, 2, 3, 4, 5, 6):
            known = {}
            for order in all_orders(many):
                left, right = tables_of(order)
                self.assertEqual((left, right), tables_made(order))
                self.assertEqual(order_of(left, right), order)
                self.assertEqual(table_falls(right), falls(order))
                self.assertEqual(tables_of(opposite(order)), (right, left))
                self.assertEqual(tables_of(turned_about(order))[0], table_turned(left))
                known.setdefault(left, []).append(order)
            for left, told in known.items():
                self.assertEqual(orders_with_left(left), told)
                self.assertEqual(len(told), count_numbered(shape_of(left)))
            count = sum(count_numbered(shape) ** 2 for shape in shapes_with(many))
            self.assertEqual(count, math.factorial(many))

    def test_thirty_things(self):
        for order in (plain_order(30), last_order(30), turned_over(plain_order(15)) + tuple(range(29, 14, -1))):
            self.assertEqual(tables_of(order), tables_made(order))
            self.assertEqual(order_of(*tables_of(order)), order)
        order = tuple(thing * 7 % 30 for thing in range(30))
        self.assertEqual(tables_of(order), tables_made(order))
        self.assertEqual(order_of(*tables_of(order)), order)

    def test_orders_with_left_of_eight(self):
        for left in (numbered_with((4, 2, 1, 1), 17), numbered_with((8,), 0), numbered_with((3, 3, 2), 41)):
            found = orders_with_left(left)
            self.assertEqual(len(found), count_numbered(shape_of(left)))
            self.assertEqual(found, sorted(set(found)))
            self.assertTrue(all(tables_made(order)[0] == left for order in found))

    def test_no_overtakings(self):
        for many in (1, 2, 30):
            self.assertEqual(tables_of(plain_order(many)), ((plain_order(many),), (plain_order(many),)))
            self.assertEqual(pairs_over(order_of((plain_order(many),), (plain_order(many),))), [])


if __name__ == "__main__":
    unittest.main()
