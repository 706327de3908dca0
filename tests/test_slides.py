"""Tables led on, back and over, against a plain filling of holes."""

import unittest

from tests.values import all_orders, all_rows, right_table, shape_of, tables_made
from wiredorders.inserted import tables_of
from wiredorders.numbered import count_numbered, numbered_tables, numbered_with, table_falls, table_turned
from wiredorders.orders import last_order, turned_about, turned_over
from wiredorders.shapes import shapes_with, stair
from wiredorders.slides import led_back, led_table, rest_of, steps_round, table_over

SMALL = [table for size in range(8) for shape in shapes_with(size) for table in numbered_tables(shape)]
BIG = [numbered_with(shape, number) for shape, number in (
    (stair(30), 10 ** 99), ((30,) * 15, 10 ** 200), ((450,), 0), ((1,) * 450, 0), ((449, 1), 77), ((300, 100, 50), 10 ** 90),
)]


def taken_away(cells):
    """Fill the hole at the first cell of a dict of cells; return the dict of what is left, and the last hole."""
    cells, hole = dict(cells), (0, 0)
    while True:
        beside = [at for at in ((hole[0], hole[1] + 1), (hole[0] + 1, hole[1])) if at in cells]
        if not beside:
            del cells[hole]
            return cells, hole
        least = min(beside, key=cells.get)
        cells[hole], hole = cells[least], least


def as_cells(table):
    return {(line, spot): integer for line, row in enumerate(table) for spot, integer in enumerate(row)}


def as_table(cells):
    lines = [[] for _ in {line for line, _ in cells}]
    for line, spot in sorted(cells):
        lines[line].append(cells[line, spot])
    return tuple(map(tuple, lines))


def on(table):
    """Return a table led on."""
    if table == ():
        return ()
    cells, hole = taken_away(as_cells(table))
    cells = {at: integer - 1 for at, integer in cells.items()}
    cells[hole] = len(cells)
    return as_table(cells)


class Slides(unittest.TestCase):
    def test_on_and_back(self):
        for table in SMALL + BIG:
            self.assertEqual(led_table(table), on(table))
            self.assertEqual(led_back(on(table)), table)
            self.assertEqual(led_table(led_back(table)), table)
            self.assertTrue(right_table(led_table(table)))

    def test_over(self):
        for table in SMALL + BIG:
            cells, over = as_cells(table), {}
            for integer in reversed(range(len(cells))):
                cells, hole = taken_away(cells)
                over[hole] = integer
            self.assertEqual(table_over(table), as_table(over))
            self.assertEqual(table_over(table_over(table)), table)

    def test_rest(self):
        for table in SMALL + BIG:
            cells = as_cells(table)
            size = len(cells)
            for number in range(size + 1):
                if number <= 7 or number in (size // 2, size):
                    told = as_table({at: integer - number for at, integer in cells.items()})
                    self.assertEqual(rest_of(table, number), told)
                cells = taken_away(cells)[0] if cells else {}

    def test_steps_round(self):
        for table in SMALL:
            steps, led = 1, on(table)
            while led != table:
                steps, led = steps + 1, on(led)
            self.assertEqual(steps_round(table), steps)
        self.assertEqual(steps_round((tuple(range(12)),)), 1)
        # A table with as many integers in each line comes again behind as many steps as it has integers.
        for number in (0, 17, 131, 461):
            self.assertEqual(12 % steps_round(numbered_with((4, 4, 4), number)), 0)
        self.assertEqual(steps_round(()), 1)

    def test_orders_turned(self):
        for order in [order for many in (1, 2, 3, 4, 5) for order in all_orders(many)]:
            left, right = tables_of(order)
            about = tables_of(turned_over(turned_about(order)))
            self.assertEqual(about, (table_over(left), table_over(right)))
            self.assertEqual(tables_of(turned_about(order))[0], table_turned(left))

    def test_rows(self):
        for order in [order for many in (1, 2, 3, 4) for order in all_orders(many)] + [(3, 0, 4, 1, 2), (4, 3, 1, 2, 0)]:
            for row in all_rows(order):
                right = tables_made(row, True)[1]
                for number in range(len(row) + 1):
                    self.assertEqual(rest_of(right, number), tables_made(row[number:], True)[1])

    def test_rows_of_the_last_order(self):
        for many in (1, 2, 3, 4, 5):
            for row in all_rows(last_order(many))[:200]:
                right = tables_made(row, True)[1]
                behind = row[1:] + tuple(many - 2 - exchange for exchange in row[:1])
                self.assertEqual(led_table(right), tables_made(behind, True)[1])
                turned = right
                for _ in row:
                    turned = led_table(turned)
                self.assertEqual(turned, table_turned(right))
            self.assertEqual(count_numbered(stair(many)), len(all_rows(last_order(many))))

    def test_shapes_and_falls(self):
        for table in SMALL:
            size = sum(shape_of(table))
            self.assertEqual(shape_of(led_table(table)), shape_of(table))
            self.assertEqual(table_falls(table_over(table)), sorted(size - 2 - fall for fall in table_falls(table)))


if __name__ == "__main__":
    unittest.main()
