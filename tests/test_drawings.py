"""Drawings, crossings and fields, against plain rules."""

import itertools
import unittest

from tests.test_rows import least_rows, lot_of
from tests.values import flat, led_to, least, pairs_over, right_drawing
from wiredorders.crossings import course, crossings, drawing_by_courses, wires_at
from wiredorders.drawings import (
    count_rows_drawn, drawn, is_drawing, is_least_drawing, order_drawn, over_drawing, row_drawn, rows_drawn,
    turned_drawing,
)
from wiredorders.fields import (
    field_corners, fields, least_drawings, triangle_turned, triangles, turnings_to,
)
from wiredorders.leastrows import count_rows
from wiredorders.orders import last_order, opposite, turned_about, turned_over
from wiredorders.overtakings import some_row
from wiredorders.rowlots import count_lots
from wiredorders.triples import late_triples

FULL = (12, ((0, 2, 4, 6, 8, 10), (1, 3, 5, 7, 9)) * 100)
WIDE = (12, ((0, 2, 4, 6, 8, 10),) * 200)


def packed(many, row):
    """Return the drawing of a row: each crossing goes left until one is in its way."""
    columns = []
    for exchange in row:
        at = len(columns)
        while at and all(abs(exchange - other) > 1 for other in columns[at - 1]):
            at -= 1
        if at == len(columns):
            columns.append([])
        columns[at].append(exchange)
    return (many, tuple(tuple(sorted(column)) for column in columns))


def some_rows(many, length):
    return list(itertools.product(range(many - 1), repeat=length))


class Drawings(unittest.TestCase):
    def test_all_columns(self):
        for many in (1, 2, 3, 4, 5):
            every = [tuple(each) for count in range(4) for each in itertools.product(range(many - 1), repeat=count)]
            for columns in itertools.product(every, repeat=2 if many < 5 else 1):
                value = (many, columns)
                self.assertEqual(is_drawing(value), right_drawing(value))
        for one, other in itertools.product([(0,), (2,), (4,), (0, 2), (0, 4), (2, 4), (1,), (3,), (1, 3), (0, 2, 4)], repeat=2):
            self.assertEqual(is_drawing((6, (one, other))), right_drawing((6, (one, other))))

    def test_all_rows(self):
        for many, length in ((1, 0), (2, 3), (3, 4), (4, 5), (5, 4), (6, 3)):
            for row in some_rows(many, length):
                drawing = drawn(many, row)
                self.assertEqual(drawing, packed(many, row))
                self.assertTrue(right_drawing(drawing))
                lot = sorted(lot_of(row))
                self.assertIn(row_drawn(drawing), lot)
                self.assertEqual(row_drawn(drawing), flat(drawing))
                self.assertEqual(rows_drawn(drawing), lot)
                self.assertEqual(count_rows_drawn(drawing), len(lot))
                self.assertEqual(order_drawn(drawing), led_to(many, row))
                self.assertEqual(is_least_drawing(drawing), least(many, row))
                self.assertEqual(turned_drawing(drawing), packed(many, row[::-1]))
                self.assertEqual(over_drawing(drawing), packed(many, [many - 2 - each for each in row]))

    def test_turned_and_over(self):
        for row in some_rows(4, 5):
            drawing = drawn(4, row)
            self.assertEqual(order_drawn(turned_drawing(drawing)), opposite(order_drawn(drawing)))
            self.assertEqual(order_drawn(over_drawing(drawing)), turned_about(turned_over(order_drawn(drawing))))
            self.assertEqual(turned_drawing(turned_drawing(drawing)), drawing)
            self.assertEqual(over_drawing(over_drawing(drawing)), drawing)

    def test_greatest(self):
        for drawing in (FULL, WIDE, (12, ()), (1, ())):
            self.assertTrue(is_drawing(drawing))
            self.assertEqual(order_drawn(drawing), led_to(drawing[0], flat(drawing)))
            self.assertEqual(is_least_drawing(drawing), drawing[1] == ())
            self.assertEqual(turned_drawing(drawing), packed(drawing[0], flat(drawing)[::-1]))
            self.assertEqual(over_drawing(over_drawing(drawing)), drawing)
        self.assertEqual(len(row_drawn(WIDE)), 1200)
        self.assertFalse(is_drawing((12, WIDE[1] + ((0,),))))
        self.assertEqual(drawn(2, (0,) * 200), (2, ((0,),) * 200))
        self.assertEqual(drawn(12, (0, 10) * 100), (12, ((0, 10),) * 100))
        self.assertEqual(drawn(12, ()), (12, ()))
        self.assertTrue(is_least_drawing(drawn(12, some_row(last_order(12)))))

    def test_greatest_counts(self):
        self.assertEqual(len(rows_drawn((12, ((0, 2, 4, 6, 8, 10), (0, 2))))), 10080)
        self.assertEqual(rows_drawn((12, ((0,), (1,), (2,), (3,), (4,), (5,), (6,), (7,)))), [tuple(range(8))])
        self.assertEqual(count_rows_drawn((12, ((0, 2, 4, 6, 8, 10),) * 4)), 3246670537110000)
        self.assertEqual(count_rows_drawn((2, ((0,),) * 24)), 1)
        self.assertEqual((rows_drawn((12, ())), count_rows_drawn((1, ()))), ([()], 1))

    def test_same_drawing(self):
        told = {}
        for row in some_rows(4, 5):
            told.setdefault(drawn(4, row), []).append(row)
        for rows in told.values():
            self.assertEqual(rows, sorted(lot_of(rows[0])))


class Crossings(unittest.TestCase):
    def simulated(self, drawing):
        """Return the crossings, each with its wires, column by column."""
        wires = list(range(drawing[0]))
        found = []
        for at, column in enumerate(drawing[1]):
            for exchange in column:
                found.append(((at, exchange), tuple(sorted(wires[exchange:exchange + 2]))))
                wires[exchange:exchange + 2] = [wires[exchange + 1], wires[exchange]]
        return found

    def test_all(self):
        drawings = [drawn(many, row) for many, length in ((1, 0), (2, 3), (3, 5), (4, 5), (5, 4)) for row in some_rows(many, length)]
        for drawing in drawings + [FULL]:
            found = self.simulated(drawing)
            self.assertEqual(crossings(drawing), sorted(crossing for crossing, _ in found))
            for crossing, wires in found[::1 if len(found) < 10 else 50]:
                self.assertEqual(wires_at(drawing, crossing), wires)
            courses = []
            for wire in range(drawing[0]):
                told = tuple(sum(wires) - wire for _, wires in found if wire in wires)
                self.assertEqual(course(drawing, wire), told)
                courses.append(told)
            self.assertEqual(drawing_by_courses(drawing[0], tuple(courses)), drawing)

    def test_all_courses(self):
        right = {}
        for length in range(4):
            for row in some_rows(3, length):
                drawing = drawn(3, row)
                right[tuple(course(drawing, wire) for wire in range(3))] = drawing
        every = [each for count in range(3) for each in itertools.product(range(3), repeat=count)]
        for value in itertools.product(every, repeat=3):
            if sum(map(len, value)) <= 6:
                self.assertEqual(drawing_by_courses(3, value), right.get(value))

    def test_long_courses(self):
        self.assertEqual(drawing_by_courses(2, ((1,) * 200, (0,) * 200)), (2, ((0,),) * 200))
        self.assertEqual(drawing_by_courses(2, ((1,) * 201, (0,) * 201)), None)
        self.assertEqual(drawing_by_courses(2, ((1,) * 500, (0,) * 500)), None)
        self.assertEqual(drawing_by_courses(2, ((1,), ())), None)
        self.assertEqual(drawing_by_courses(2, [(1,), (0,)]), None)
        self.assertEqual(drawing_by_courses(2, ([1], [0])), None)
        self.assertEqual(drawing_by_courses(2, ((True,), (False,))), None)
        self.assertEqual(drawing_by_courses(2, ((0,), (1,))), None)
        self.assertEqual(drawing_by_courses(3, ((1,), (0,))), None)
        self.assertEqual(drawing_by_courses(12, ((),) * 12), (12, ()))
        self.assertEqual(drawing_by_courses(1, ((),)), (1, ()))

    def test_least_wires_cross_once(self):
        for many in (2, 3, 4):
            for order, rows in least_rows(many).items():
                for row in rows:
                    drawing = drawn(many, row)
                    met = [wires_at(drawing, crossing) for crossing in crossings(drawing)]
                    self.assertEqual(sorted(met), pairs_over(order))


class Fields(unittest.TestCase):
    def corners(self, drawing):
        """Return, for each field, the sorted list of its corners."""
        found = {}
        told = [(at, exchange) for at, column in enumerate(drawing[1]) for exchange in column]
        for (at, i), (to, j) in itertools.product(told, repeat=2):
            between = [each for each in told if at < each[0] < to]
            if i == j and at < to and not any(each[1] == i for each in between):
                found[at, i] = [(at, i)] + [each for each in between if abs(each[1] - i) == 1] + [(to, i)]
        return found

    def turned(self, drawing, three):
        """Return the drawing with three corners, found side by side in some row, turned."""
        told = [(at, exchange) for at, column in enumerate(drawing[1]) for exchange in column]
        border, seen = [tuple(told)], {tuple(told)}
        while border:
            row = border.pop()
            for at in range(len(row) - 2):
                if row[at:at + 3] == tuple(three):
                    i, j = row[at][1], row[at + 1][1]
                    items = [each[1] for each in row]
                    return packed(drawing[0], items[:at] + [j, i, j] + items[at + 3:])
            for at in range(len(row) - 1):
                if abs(row[at][1] - row[at + 1][1]) >= 2:
                    other = row[:at] + (row[at + 1], row[at]) + row[at + 2:]
                    if other not in seen:
                        seen.add(other)
                        border.append(other)
        return None

    def test_all(self):
        for many, length in ((1, 0), (2, 4), (3, 6), (4, 6), (5, 5)):
            for drawing in {drawn(many, row) for row in some_rows(many, length)}:
                found = self.corners(drawing)
                self.assertEqual(fields(drawing), sorted((crossing, len(each)) for crossing, each in found.items()))
                for crossing, each in found.items():
                    self.assertEqual(field_corners(drawing, crossing), sorted(each))
                three = sorted(crossing for crossing, each in found.items() if len(each) == 3)
                self.assertEqual(triangles(drawing), three)
                for crossing in three:
                    turned = triangle_turned(drawing, crossing)
                    self.assertEqual(turned, self.turned(drawing, found[crossing]))
                    self.assertEqual(order_drawn(turned), order_drawn(drawing))

    def test_last_order(self):
        for many in (3, 4, 5, 6):
            rows = [some_row(last_order(many))] if many == 6 else least_rows(many)[last_order(many)][::5]
            for row in rows:
                drawing = drawn(many, row)
                self.assertEqual(len(fields(drawing)), (many - 1) * (many - 2) // 2)
                self.assertGreaterEqual(len(triangles(drawing)), many - 2)

    def test_greatest(self):
        self.assertEqual(fields((2, ((0,),) * 200)), [((at, 0), 2) for at in range(199)])
        self.assertEqual(triangles((3, ((0,), (1,)) * 100)), [(at, at % 2) for at in range(198)])
        self.assertEqual(len(fields(FULL)), 6 * 99 + 5 * 99)
        self.assertEqual((fields((12, ())), triangles((1, ()))), ([], []))
        turned = triangle_turned((3, ((0,), (1,)) * 100), (0, 0))
        self.assertEqual(turned, packed(3, (1, 0, 1, 1) + (0, 1) * 98))

    def test_least_drawings(self):
        for many in (1, 2, 3, 4, 5):
            for order, rows in list(least_rows(many).items())[::1 if many < 5 else 7]:
                told = sorted({packed(many, row) for row in rows})
                self.assertEqual(least_drawings(order), told)
                self.assertEqual(len(told), count_lots(order))
                self.assertEqual(sum(count_rows_drawn(drawing) for drawing in told), count_rows(order))
        self.assertEqual(len(least_drawings(last_order(5))), 62)

    def steps_between(self, drawing):
        """Return the least number of turnings to each drawing, and turn all triangles on the way."""
        steps, border = {drawing: 0}, [drawing]
        for held in border:
            for crossing in triangles(held):
                reached = triangle_turned(held, crossing)
                if reached not in steps:
                    steps[reached] = steps[held] + 1
                    border.append(reached)
        return steps

    def check_turnings(self, drawing, aim, count):
        told = turnings_to(drawing, aim)
        self.assertIs(type(told), tuple)
        self.assertEqual(len(told), count)
        for crossing in told:
            drawing = triangle_turned(drawing, crossing)
        self.assertEqual(drawing, aim)

    def test_turnings(self):
        for many in (1, 2, 3, 4):
            for order in itertools.permutations(range(many)):
                every = least_drawings(order)
                for drawing in every:
                    steps = self.steps_between(drawing)
                    self.assertEqual(sorted(steps), every)
                    for aim in every:
                        self.check_turnings(drawing, aim, steps[aim])
        every = least_drawings(last_order(5))
        for drawing in every[::20]:
            steps = self.steps_between(drawing)
            for aim in every[::3]:
                self.check_turnings(drawing, aim, steps[aim])

    def test_turning_changes_one_triple(self):
        for order in ((3, 2, 1, 0), (3, 1, 0, 2), (4, 3, 2, 1, 0), (4, 2, 1, 0, 3)):
            for drawing in least_drawings(order):
                late = set(late_triples(drawing))
                changed = set()
                for crossing in triangles(drawing):
                    other = late ^ set(late_triples(triangle_turned(drawing, crossing)))
                    self.assertEqual(len(other), 1)
                    changed |= other
                self.assertEqual(len(changed), len(triangles(drawing)))
