"""Each limit: at it, one beyond it, and behind all other errors."""

import unittest

from tests.values import BIG
from wiredorders import errors
from wiredorders.blocks import side_by_side
from wiredorders.codes import orders
from wiredorders.drawings import count_rows_drawn, drawn, rows_drawn
from wiredorders.fields import least_drawings, turnings_to
from wiredorders.leastrows import count_rows, row_number_of, row_with, rows_of
from wiredorders.orders import last_order, plain_order
from wiredorders.overtakings import some_row
from wiredorders.paths import paths, with_path
from wiredorders.rowlots import count_lots, lot_forms, lot_size
from wiredorders.rowmoves import fewest_moves, fewest_near, move_way
from wiredorders.triples import drawing_late, is_triple_bar, triple_bar

CLIMB = tuple(range(11))

# A function, arguments at the limit, arguments one beyond it, and the limit.
TABLE = (
    (orders, (7,), (8,), 7),
    (orders, (1,), (30,), 7),
    (side_by_side, (plain_order(15), last_order(15)), (plain_order(15), last_order(16)), 30),
    (side_by_side, (plain_order(29), (0,)), (plain_order(30), (0,)), 30),
    (count_rows, (last_order(7),), (plain_order(8),), 7),
    (row_with, (last_order(7), 5), (last_order(8), 5), 7),
    (row_with, (plain_order(7), 0), (plain_order(8), 1), 7),
    (row_number_of, (last_order(7), some_row(last_order(7))), (last_order(8), some_row(last_order(8))), 7),
    (rows_of, (last_order(5),), (plain_order(6),), 5),
    (lot_size, (30, (0,) * 16), (30, (0,) * 17), 16),
    (lot_size, (30, ()), (30, (28,) * 450), 16),
    (lot_forms, (last_order(5),), (plain_order(6),), 5),
    (count_lots, (last_order(5),), (plain_order(6),), 5),
    (move_way, (30, CLIMB[:10], CLIMB[:10]), (30, CLIMB, CLIMB), 10),
    (fewest_moves, (5, (), ()), (6, (), ()), 5),
    (fewest_near, (5, (), ()), (6, (), ()), 5),
    (rows_drawn, (drawn(2, (0,) * 8),), (drawn(2, (0,) * 9),), 8),
    (count_rows_drawn, (drawn(2, (0,) * 24),), (drawn(2, (0,) * 25),), 24),
    (least_drawings, (last_order(5),), (plain_order(6),), 5),
    (turnings_to, ((5, ()), (5, ())), ((6, ()), (6, ())), 5),
    (drawing_late, (last_order(12), ()), (plain_order(13), ()), 12),
    (paths, ((6, ()),), ((7, ()),), 6),
    (paths, (drawn(6, (0, 1) * 10),), (drawn(6, (0, 1) * 10 + (0,)),), 20),
    (paths, ((6, ()),), (drawn(7, (0, 1) * 11),), 6),
    (with_path, ((11, ()), (0,) * 11), ((12, ()), (0,) * 12), 12),
    (with_path, (drawn(2, (0,) * 198), (7, 7)), (drawn(2, (0,) * 199), (7, 7)), 200),
    (with_path, ((11, ()), (0,) * 11), (drawn(12, (0,) * 200), (0,) * 12), 12),
)

# Calls that are beyond a limit, and wrong besides.
BESIDES = (
    (errors.InvalidNumber, row_with, (last_order(8), -1)),
    (errors.InvalidNumber, row_with, (last_order(8), None)),
    (errors.InvalidRow, row_number_of, (last_order(8), ())),
    (errors.InvalidRow, row_number_of, (last_order(30), (0, 0))),
    (errors.InvalidOrder, side_by_side, (plain_order(30), (1,))),
    (errors.InvalidRow, lot_size, (30, (0,) * 451)),
    (errors.InvalidRow, move_way, (30, CLIMB, CLIMB + (10,))),
    (errors.Unlike, move_way, (30, CLIMB, CLIMB[::-1])),
    (errors.Unlike, fewest_moves, (6, (0,), ())),
    (errors.Unlike, fewest_near, (6, (0,), ())),
    (errors.InvalidDrawing, turnings_to, ((6, ()), (13, ()))),
    (errors.Unlike, turnings_to, ((6, ()), (7, ()))),
    (errors.InvalidTriples, drawing_late, (plain_order(13), ((0, 1, 2),))),
    (errors.InvalidPath, with_path, ((12, ()), (0,) * 11)),
    (errors.InvalidPath, with_path, (drawn(2, (0,) * 199), (7, 8))),
)


class Limits(unittest.TestCase):
    def test_at_the_limit(self):
        for function, within, _, _ in TABLE:
            function(*within)

    def test_beyond_it(self):
        for function, _, beyond, limit in TABLE:
            with self.assertRaises(errors.TooMany, msg=function.__name__) as caught:
                function(*beyond)
            self.assertEqual(caught.exception.limit, limit)

    def test_other_errors_come_first(self):
        for error, function, args in BESIDES:
            with self.assertRaises(errors.OrderError) as caught:
                function(*args)
            self.assertIs(caught.exception.__class__, error, function.__name__)

    def test_number_beyond_behind_too_many(self):
        with self.assertRaises(errors.TooMany):
            row_with(plain_order(8), BIG)
        with self.assertRaises(errors.InvalidNumber):
            row_with(plain_order(7), 1)

    def test_no_limit_elsewhere(self):
        self.assertIsNone(triple_bar(last_order(13), ()))
        self.assertFalse(is_triple_bar(last_order(30), (), ()))
