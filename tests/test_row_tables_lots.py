"""Tables of rows, and rising and falling lots, against plain rules."""

import itertools
import unittest

from tests.values import (
    ANY, all_lefts, all_orders, all_rows, is_among, led_to, pairs_over, right_lots, right_rising, rises, shape_of,
    tables_made,
)
from wiredorders.inserted import tables_of
from wiredorders.leastrows import count_rows
from wiredorders.lots import (
    are_falling, are_rising, count_longest, longest_rising, most_falling, most_rising, rising_lots,
)
from wiredorders.numbered import count_numbered, numbered_tables, numbered_with, table_falls
from wiredorders.orders import last_order, plain_order
from wiredorders.overtakings import some_row
from wiredorders.rowtables import (
    is_left, left_tables, order_with_left, row_of, row_on, stair_row, tables_of_row,
)
from wiredorders.shapes import shape_turned, shapes_with, stair

FEW = [order for many in (1, 2, 3, 4, 5) for order in all_orders(many)]
M, Z = (3, 0, 4, 1, 2), (3, 2, 1, 0)


class RowTables(unittest.TestCase):
    def test_all_rows(self):
        for order in FEW:
            many, known = len(order), {}
            for row in all_rows(order):
                left, right = tables_of_row(many, row)
                self.assertEqual((left, right), tables_made(row, True))
                self.assertEqual(row_of(many, left, right), row)
                self.assertEqual(order_with_left(many, left), order)
                self.assertEqual(table_falls(right), [at for at in range(len(row) - 1) if row[at] > row[at + 1]])
                known[left] = known.get(left, 0) + 1
            self.assertEqual(left_tables(order), sorted(known))
            for left, count in known.items():
                self.assertTrue(is_left(many, left))
                self.assertEqual(count, count_numbered(shape_of(left)))

    def test_rows_have_all_right_tables(self):
        for left, order in all_lefts(4).items():
            rights = numbered_tables(shape_of(left))
            self.assertEqual(sorted(row_of(4, left, right) for right in rights),
                             [row for row in all_rows(order) if tables_made(row, True)[0] == left])

    def test_six_things(self):
        self.assertEqual(len(left_tables((2, 1, 0, 5, 4, 3))), 8)
        for order in all_orders(6)[::20] + [last_order(6)]:
            lefts = left_tables(order)
            self.assertEqual(sum(count_numbered(shape_of(left)) for left in lefts), count_rows(order))
            self.assertTrue(all(is_left(6, left) and order_with_left(6, left) == order for left in lefts))

    def test_is_left_of_all_tables(self):
        for many in (2, 3, 4):
            for shape in [shape for size in range(7) for shape in shapes_with(size) if size < 5 or many == 4]:
                for table in self.tables_of_exchanges(shape, many - 1):
                    self.assertIs(is_left(many, table), table in all_lefts(many), table)

    def tables_of_exchanges(self, shape, bound):
        lines = [list(itertools.combinations(range(bound), length)) for length in shape]
        return [table for table in itertools.product(*lines) if right_rising(table)]

    def test_is_left_of_any_value(self):
        for many in (1, 2, 3, 4, 5):
            for index, value in enumerate(ANY):
                self.assertIs(is_left(many, value), is_among(value, 2, all_lefts(many)), f"{many}, value {index}")
        self.assertFalse(is_left(30, ((29,),)))
        self.assertTrue(is_left(30, ((28,),)))
        self.assertFalse(is_left(30, (tuple(range(31)),)))

    def test_last_order(self):
        for many in (1, 2, 3, 4, 5):
            order = last_order(many)
            left = tuple(tuple(range(line, many - 1)) for line in range(many - 1))
            self.assertEqual(left_tables(order), [left])
            rights = sorted(tables_made(row, True)[1] for row in all_rows(order))
            self.assertEqual(len(set(rights)), count_numbered(stair(many)))
            for row in all_rows(order):
                self.assertEqual(stair_row(many, tables_made(row, True)[1]), row)
                on = row[1:] + tuple(many - 2 - exchange for exchange in row[:1])
                self.assertEqual(row_on(many, row), on)
                self.assertIn(on, all_rows(order))

    def test_thirty_things(self):
        row = some_row(last_order(30))
        left, right = tables_of_row(30, row)
        self.assertEqual((left, right), tables_made(row, True))
        self.assertEqual(row_of(30, left, right), row)
        self.assertEqual(stair_row(30, right), row)
        table = numbered_with(stair(30), 10 ** 100)
        self.assertEqual(tables_of_row(30, stair_row(30, table)), (left, table))
        self.assertEqual(led_to(30, row_on(30, row)), last_order(30))


class Lots(unittest.TestCase):
    def test_any_value(self):
        for order in ((0,), (1, 0), (0, 1, 2), (2, 1, 0), M, Z):
            for index, value in enumerate(ANY):
                self.assertIs(are_rising(order, value), right_lots(order, value), f"{order}, value {index}")
                self.assertIs(are_falling(order, value), right_lots(order, value, True), f"{order}, value {index}")

    def test_pairs_of_lots(self):
        things = [lot for size in range(4) for lot in itertools.permutations(range(4), size)]
        for order in ((2, 0, 3, 1), (0, 1, 2, 3), Z):
            for value in itertools.product(things, repeat=2):
                self.assertIs(are_rising(order, value), right_lots(order, value))
                self.assertIs(are_falling(order, value), right_lots(order, value, True))
        self.assertFalse(are_rising(M, [(0, 1)]))
        self.assertFalse(are_rising(M, ([0, 1],)))

    def test_most(self):
        for order in FEW:
            rising, falling = self.all_lots(order), self.all_lots(order, True)
            lines = shape_of(tables_of(order)[0])
            for lots in range(1, len(order) + 1):
                self.assertEqual(most_rising(order, lots), self.most(rising, lots))
                self.assertEqual(most_rising(order, lots), sum(lines[:lots]))
                self.assertEqual(most_falling(order, lots), self.most(falling, lots))
                self.assertEqual(most_falling(order, lots), sum(shape_turned(lines)[:lots]))
                self.check_lots(order, lots)

    def all_lots(self, order, falling=False):
        """Return the set of all sets of things that are a rising, or falling, lot."""
        subsets = [set(some) for size in range(1, len(order) + 1) for some in itertools.combinations(order, size)]
        good = []
        for some in subsets:
            things = [thing for thing in order if thing in some]
            if rises(things[::-1] if falling else things):
                good.append(frozenset(some))
        return good

    def most(self, good, lots):
        reached = {frozenset()}
        for _ in range(lots):
            reached |= {held | one for held in reached for one in good}
        return max(map(len, reached))

    def check_lots(self, order, lots):
        found = rising_lots(order, lots)
        self.assertTrue(right_lots(order, found))
        self.assertTrue(are_rising(order, found))
        self.assertLessEqual(len(found), lots)
        self.assertEqual(sum(map(len, found)), most_rising(order, lots))

    def test_thirty_things(self):
        mixed = tuple(thing * 7 % 30 for thing in range(30))
        for order in (plain_order(30), last_order(30), mixed, mixed[::-1], tuple(thing ^ 1 for thing in range(30))):
            for lots in (1, 2, 3, 4, 7, 29, 30):
                self.check_lots(order, lots)
            self.assertEqual(most_rising(order, 30), 30)
            self.assertEqual(most_falling(order, 30), 30)

    def test_lots_led_anew(self):
        # No two lots with most things of these have a longest one among them.
        for order in ((1, 2, 5, 0, 3, 4), (3, 0, 1, 4, 5, 2)):
            for lots in (1, 2, 3, 6, 30):
                self.check_lots(order, lots)
            self.assertEqual(most_rising(order, 2), 6)

    def test_longest(self):
        for order in FEW:
            lots = [things for size in range(1, len(order) + 1) for things in itertools.combinations(order, size)]
            lots = [things for things in lots if rises(things)]
            size = max(map(len, lots))
            longest = sorted(things for things in lots if len(things) == size)
            self.assertEqual(longest_rising(order), longest[0])
            self.assertEqual(count_longest(order), len(longest))
        self.assertEqual(longest_rising(last_order(30)), (0,))
        self.assertEqual(count_longest(last_order(30)), 30)
        self.assertEqual(count_longest(tuple(thing ^ 1 for thing in range(30))), 2 ** 15)
        self.assertEqual(longest_rising(tuple(thing ^ 1 for thing in range(30))), tuple(range(0, 30, 2)))
        self.assertEqual(pairs_over(longest_rising(plain_order(30))), [])


if __name__ == "__main__":
    unittest.main()
