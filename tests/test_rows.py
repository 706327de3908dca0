"""Least rows and lots of rows, against plain rules."""

import itertools
import unittest

from tests.values import led_to
from wiredorders.leastrows import (
    count_rows, first_row, last_row, row_begins, row_number_of, row_with, rows_of,
)
from wiredorders.orders import last_order, opposite, order_behind, plain_order, renamed
from wiredorders.overtakings import falls, is_least_row, size_of
from wiredorders.rowlots import count_lots, lot_form, lot_forms, lot_size, rounds_of, same_lot

LONG = (0, 28, 14, 3, 3, 9, 28, 1, 2) * 50


def least_rows(many):
    """Return, for each order of so many things, the sorted list of the shortest rows to it."""
    found = {tuple(range(many)): [()]}
    border = found
    while border:
        further = {}
        for order, rows in border.items():
            for at in range(many - 1):
                reached = led_to(many, [at], order)
                if reached not in found:
                    further.setdefault(reached, []).extend(row + (at,) for row in rows)
        found.update(further)
        border = further
    return {order: sorted(rows) for order, rows in found.items()}


def lot_of(row):
    """Return the set of all rows to which far moves lead from a row."""
    found, border = {row}, [row]
    while border:
        held = border.pop()
        for at in range(len(held) - 1):
            if abs(held[at] - held[at + 1]) >= 2:
                other = held[:at] + (held[at + 1], held[at]) + held[at + 2:]
                if other not in found:
                    found.add(other)
                    border.append(other)
    return found


class LeastRows(unittest.TestCase):
    def test_few(self):
        for many in (1, 2, 3, 4, 5):
            for order, rows in least_rows(many).items():
                self.assertEqual(rows_of(order), rows)
                self.assertEqual((first_row(order), last_row(order)), (rows[0], rows[-1]))
                self.assertEqual(count_rows(order), len(rows))
                self.assertEqual(row_begins(order), sorted({row[0] for row in rows if row}))
                self.assertEqual(falls(order), sorted({row[-1] for row in rows if row}))
                for number in range(0, len(rows), 1 if len(rows) < 50 else 37):
                    self.assertEqual(row_with(order, number), rows[number])
                    self.assertEqual(row_number_of(order, rows[number]), number)

    def test_seven(self):
        most = 1100742656
        self.assertEqual(count_rows(last_order(7)), most)
        self.assertEqual(row_with(last_order(7), 0), first_row(last_order(7)))
        self.assertEqual(row_with(last_order(7), most - 1), last_row(last_order(7)))
        self.assertEqual(row_number_of(last_order(7), row_with(last_order(7), 10 ** 9)), 10 ** 9)

    def test_thirty(self):
        for choice in (first_row, last_row):
            for order in (last_order(30), tuple(7 * place % 31 - 1 for place in range(1, 31))):
                self.assertEqual(order_behind(30, choice(order)), order)
                self.assertEqual(len(choice(order)), size_of(order))
            self.assertEqual(choice(plain_order(30)), ())
        self.assertEqual(first_row(last_order(30))[:4], (0, 1, 0, 2))
        self.assertEqual(last_row(last_order(30))[:4], (28, 27, 28, 26))
        self.assertEqual((row_begins(last_order(30)), row_begins((0,))), (list(range(29)), []))

    def test_sum_over_falls(self):
        for order, rows in least_rows(4).items():
            if rows != [()]:
                behind = [led_to(4, [at], order) for at in falls(order)]
                self.assertEqual(count_rows(order), sum(count_rows(other) for other in behind))
                ahead = [renamed(order, at) for at in row_begins(order)]
                self.assertEqual(count_rows(order), sum(count_rows(other) for other in ahead))
                self.assertEqual(count_rows(order), count_rows(opposite(order)))


class Lots(unittest.TestCase):
    def test_all_rows(self):
        for many, length in ((2, 3), (4, 5), (5, 4), (6, 3)):
            forms, rounds = {}, {}
            for row in itertools.product(range(many - 1), repeat=length):
                lot = lot_of(row)
                self.assertEqual(lot_form(many, row), min(lot))
                self.assertEqual(lot_size(many, row), len(lot))
                told = rounds_of(many, row)
                forms.setdefault(min(lot), told)
                self.assertEqual(forms[min(lot)], told)
                rounds.setdefault(told, min(lot))
                self.assertEqual(rounds[told], min(lot))
                self.check_rounds(told, lot)

    def check_rounds(self, told, lot):
        self.assertIs(type(told), tuple)
        for each in told:
            self.assertIs(type(each), tuple)
            self.assertEqual(list(each), sorted(set(each)))
        self.assertIn(tuple(exchange for each in told for exchange in each), lot)

    def test_rounds_step_by_step(self):
        for row in itertools.product(range(4), repeat=5):
            put = []
            for at, exchange in enumerate(row):
                put.append(1 + max([put[early] for early in range(at) if abs(row[early] - exchange) < 2], default=-1))
            told = tuple(
                tuple(sorted(row[at] for at in range(5) if put[at] == index)) for index in range(max(put) + 1)
            )
            self.assertEqual(rounds_of(5, row), told)

    def test_same_lot(self):
        rows = list(itertools.product(range(3), repeat=4))
        lots = {row: lot_of(row) for row in rows}
        for row, other in itertools.product(rows, repeat=2):
            self.assertIs(same_lot(4, row, other), other in lots[row])
        self.assertIs(same_lot(4, (0,), (0, 0)), False)
        self.assertIs(same_lot(4, (), ()), True)

    def test_lots_of_orders(self):
        for many in (1, 2, 3, 4):
            for order, rows in least_rows(many).items():
                forms = sorted({min(lot_of(row)) for row in rows})
                self.assertEqual(lot_forms(order), forms)
                self.assertEqual(count_lots(order), len(forms))
                self.assertEqual(sum(lot_size(many, form) for form in forms), count_rows(order))
        self.assertEqual(sum(lot_size(5, form) for form in lot_forms(last_order(5))), 768)

    def test_long_rows(self):
        self.assertEqual(lot_form(30, ()), ())
        self.assertEqual(rounds_of(30, ()), ())
        form = lot_form(30, LONG)
        self.assertEqual((len(form), rounds_of(30, form)), (450, rounds_of(30, LONG)))
        self.assertEqual(lot_form(30, form), form)
        self.assertTrue(same_lot(30, LONG, form))
        self.assertEqual(lot_form(30, (28, 0) * 225), (0,) * 225 + (28,) * 225)
        self.assertEqual(rounds_of(30, (28, 0) * 225), ((0, 28),) * 225)
        self.assertFalse(same_lot(30, LONG, LONG[::-1]))

    def test_greatest_lots(self):
        apart = tuple(range(0, 29, 2))
        size = 1
        for number in range(1, 16):
            size *= number
        self.assertEqual(lot_size(30, apart), size)
        self.assertEqual(lot_size(30, apart + (28,)), size * 16 // 2)
        self.assertEqual(lot_size(30, (0,) * 8 + (28,) * 8), 12870)
        self.assertEqual(lot_size(30, (0,) * 16), 1)
        self.assertTrue(is_least_row(30, apart))
