"""What the document says to hold for all orders, over all orders of few things."""

import itertools
import unittest

from wiredorders.codes import code
from wiredorders.leastrows import count_rows, rows_of
from wiredorders.orders import led, opposite, order_behind, plain_order, swapped
from wiredorders.overtakings import falls, is_least_row, order_by, overtakings, size_of
from wiredorders.rings import rings, sign
from wiredorders.rowlots import lot_form, lot_forms, lot_size, rounds_of, same_lot

FEW = [order for many in range(1, 6) for order in itertools.permutations(range(many))]


class Statements(unittest.TestCase):
    def test_size_and_code(self):
        for order in FEW:
            self.assertEqual(size_of(order), sum(code(order)))
            self.assertEqual(size_of(order), len(overtakings(order)))
            for at in range(len(order) - 1):
                step = -1 if at in falls(order) else 1
                self.assertEqual(size_of(swapped(order, at)), size_of(order) + step)

    def test_known_by_overtakings_and_code(self):
        self.assertEqual(len({(len(order), tuple(overtakings(order))) for order in FEW}), len(FEW))
        self.assertEqual(len({code(order) for order in FEW}), len(FEW))
        for order in FEW:
            self.assertEqual(order_by(len(order), tuple(overtakings(order))), order)

    def test_opposite(self):
        for order in FEW:
            back = opposite(order)
            places = [tuple(sorted((back[one], back[other]))) for one, other in overtakings(order)]
            self.assertEqual(overtakings(back), sorted(places))
            self.assertEqual(led(order, back), plain_order(len(order)))
            self.assertEqual(led(back, order), plain_order(len(order)))
            self.assertEqual(opposite(back), order)

    def test_sign(self):
        for order in FEW:
            self.assertEqual(sign(order) == 1, size_of(order) % 2 == 0)
            self.assertEqual(sign(order) == 1, (len(order) - len(rings(order))) % 2 == 0)

    def test_counts_of_rows(self):
        for order in FEW:
            behind = [swapped(order, at) for at in falls(order)]
            self.assertEqual(count_rows(order), sum(map(count_rows, behind)) if behind else 1)
            self.assertEqual(count_rows(order), sum(lot_size(len(order), form) for form in lot_forms(order)))

    def test_lots(self):
        for order in FEW[:33]:
            many = len(order)
            for row, other in itertools.product(rows_of(order), repeat=2):
                told = same_lot(many, row, other)
                self.assertEqual(told, lot_form(many, row) == lot_form(many, other))
                self.assertEqual(told, rounds_of(many, row) == rounds_of(many, other))

    def test_two_steps_too_many(self):
        for many, length in ((2, 3), (3, 5), (4, 5)):
            for row in itertools.product(range(many - 1), repeat=length):
                aim = order_behind(many, row)
                shorter = [
                    row[:one] + row[one + 1:other] + row[other + 1:]
                    for one, other in itertools.combinations(range(length), 2)
                ]
                self.assertNotEqual(is_least_row(many, row), any(order_behind(many, each) == aim for each in shorter))

    def test_one_exchange_more(self):
        for order in FEW[1:33]:
            many = len(order)
            for row, exchange in itertools.product(rows_of(order), range(many - 1)):
                longer = row + (exchange,)
                without = [row[:at] + row[at + 1:] for at in range(len(row))]
                same = [each for each in without if order_behind(many, each) == order_behind(many, longer)]
                self.assertEqual(len(same), 0 if is_least_row(many, longer) else 1)
