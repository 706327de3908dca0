"""Each limit: at it, one beyond it, and behind all other errors."""

import unittest

from tests.values import BIG, STATE
from wiredorders import errors
from wiredorders.bigcounts import count_falls_at, count_ringed, count_sized, falls_rest, unstill_rest
from wiredorders.blocks import side_by_side
from wiredorders.climbs import climbs, count_climbs
from wiredorders.codes import orders
from wiredorders.countwords import both_spread, signed_spread, spread
from wiredorders.drawings import count_rows_drawn, drawn, rows_drawn
from wiredorders.fields import least_drawings, turnings_to
from wiredorders.inserted import orders_with_left
from wiredorders.layings import comes_behind, count_layings, count_rows_of, first_row_of, layings
from wiredorders.countcarried import size_to_weight, tops_to_rings
from wiredorders.leastrows import count_rows, row_number_of, row_with, rows_of
from wiredorders.lifebenches import Bench
from wiredorders.lifestates import all_stepped, is_script
from wiredorders.lifevalues import Spanned
from wiredorders.nearnets import fewest_more, kept_row, more_for, near_more, near_net, near_rest
from wiredorders.nets import (
    first_parted, first_unsorted, idle_comparers, is_sorter, layers_of, unsorted_marks, without_idle,
)
from wiredorders.numbered import count_by_falls, count_numbered, numbered_tables
from wiredorders.orders import last_order, plain_order
from wiredorders.overtakings import some_row
from wiredorders.paths import paths, with_path
from wiredorders.patterns import count_spots, count_without, has_pattern, orders_without, spots
from wiredorders.pipeproducts import fall_step, in_orders, orders_up
from wiredorders.pipes import all_pipes, count_pipes, high_pipes, low_pipes
from wiredorders.pipesums import order_sum
from wiredorders.rowlots import count_lots, lot_forms, lot_size
from wiredorders.rowmoves import fewest_moves, fewest_near, move_way
from wiredorders.rowtables import left_tables
from wiredorders.shapes import shapes_above
from wiredorders.sixes import sixes, turns_between
from wiredorders.slides import steps_round
from wiredorders.stacks import bubble_passes, is_lines_way, is_stacks_way, stack_passes, stacks_needed, stacks_way
from wiredorders.spans import are_shares, heights_of, span_at
from wiredorders.strongsums import is_smooth, sizes_below, step_polynomial
from wiredorders.strongways import count_strong_ways, least_above, strong_signed, strong_way, strongly_between
from wiredorders.tellrows import fewest_items, rows_told, surely_ahead
from wiredorders.tilings import count_roads, laying_mirrored, orders_within, points_of
from wiredorders.triples import drawing_late, is_triple_bar, triple_bar
from wiredorders.weakways import count_weak_ways, count_weakly_below, weak_signed, weak_way, weakly_between

CLIMB = tuple(range(11))
FROM_PLAIN = {many: (plain_order(many), last_order(many)) for many in range(1, 31)}

# A function, arguments at the limit, arguments one beyond it, and the limit.
TABLE = (
    (orders, (7,), (8,), 7),
    (orders, (1,), (30,), 7),
    (side_by_side, (plain_order(15), last_order(15)), (plain_order(15), last_order(16)), 30),
    (side_by_side, (plain_order(29), (0,)), (plain_order(30), (0,)), 30),
    (count_rows, (last_order(7),), (plain_order(8),), 7),
    (row_with, (last_order(7), 5), (last_order(8), 5), 7),
    (row_with, (plain_order(7), 0), (plain_order(8), 1), 7),
    (row_number_of, (last_order(7), some_row(last_order(7))), (last_order(8), some_row(last_order(8))), 7),
    (rows_of, (last_order(5),), (plain_order(6),), 5),
    (lot_size, (30, (0,) * 16), (30, (0,) * 17), 16),
    (lot_size, (30, ()), (30, (28,) * 450), 16),
    (lot_forms, (last_order(5),), (plain_order(6),), 5),
    (count_lots, (last_order(5),), (plain_order(6),), 5),
    (move_way, (30, CLIMB[:10], CLIMB[:10]), (30, CLIMB, CLIMB), 10),
    (fewest_moves, (5, (), ()), (6, (), ()), 5),
    (fewest_near, (5, (), ()), (6, (), ()), 5),
    (rows_drawn, (drawn(2, (0,) * 8),), (drawn(2, (0,) * 9),), 8),
    (count_rows_drawn, (drawn(2, (0,) * 24),), (drawn(2, (0,) * 25),), 24),
    (least_drawings, (last_order(5),), (plain_order(6),), 5),
    (turnings_to, ((5, ()), (5, ())), ((6, ()), (6, ())), 5),
    (drawing_late, (last_order(12), ()), (plain_order(13), ()), 12),
    (paths, ((6, ()),), ((7, ()),), 6),
    (paths, (drawn(6, (0, 1) * 10),), (drawn(6, (0, 1) * 10 + (0,)),), 20),
    (paths, ((6, ()),), (drawn(7, (0, 1) * 11),), 6),
    (with_path, ((11, ()), (0,) * 11), ((12, ()), (0,) * 12), 12),
    (with_path, (drawn(2, (0,) * 198), (7, 7)), (drawn(2, (0,) * 199), (7, 7)), 200),
    (with_path, ((11, ()), (0,) * 11), (drawn(12, (0,) * 200), (0,) * 12), 12),
    (layings, (last_order(5),), (plain_order(6),), 5),
    (count_layings, (last_order(6),), (plain_order(7),), 6),
    (count_rows_of, (plain_order(7), ()), (plain_order(8), ()), 7),
    (turns_between, (plain_order(5), (), ()), (plain_order(6), (), ()), 5),
    (count_roads, (plain_order(7), ()), (plain_order(8), ()), 7),
    (orders_within, (plain_order(6), ()), (plain_order(7), ()), 6),
    (shapes_above, ((449,),), ((450,),), 450),
    (shapes_above, ((1,) * 449,), ((30,) * 15,), 450),
    (numbered_tables, ((4, 3, 2),), ((4, 3, 3),), 9),
    (numbered_tables, ((1,) * 9,), ((450,),), 9),
    (count_by_falls, ((6, 5, 4, 3, 2),), ((6, 6, 4, 3, 2),), 20),
    (count_by_falls, ((),), ((1,) * 450,), 20),
    (orders_with_left, ((tuple(range(8)),),), ((tuple(range(9)),),), 8),
    (orders_with_left, (((0,),),), ((tuple(range(31)),),), 8),
    (left_tables, (last_order(6),), (plain_order(7),), 6),
    (steps_round, ((tuple(range(11)), (11,)),), ((tuple(range(13)),),), 12),
    (steps_round, (((0, 1, 2, 3, 4), (5, 6, 7, 8), (9, 10), (11,)),), ((tuple(range(450)),),), 12),
    (weakly_between, FROM_PLAIN[6], FROM_PLAIN[7], 6),
    (weakly_between, FROM_PLAIN[1], FROM_PLAIN[7][::-1], 6),
    (count_weak_ways, FROM_PLAIN[6], FROM_PLAIN[7], 6),
    (count_weak_ways, FROM_PLAIN[6][::-1], FROM_PLAIN[30][::-1], 6),
    (count_weakly_below, (last_order(12),), (plain_order(13),), 12),
    (strongly_between, FROM_PLAIN[6], FROM_PLAIN[7], 6),
    (strongly_between, FROM_PLAIN[1], FROM_PLAIN[7][::-1], 6),
    (count_strong_ways, FROM_PLAIN[6], FROM_PLAIN[7], 6),
    (count_strong_ways, FROM_PLAIN[6][::-1], FROM_PLAIN[30][::-1], 6),
    (least_above, FROM_PLAIN[6], FROM_PLAIN[7], 6),
    (sizes_below, (last_order(6),), (plain_order(7),), 6),
    (step_polynomial, FROM_PLAIN[6], FROM_PLAIN[7], 6),
    (step_polynomial, FROM_PLAIN[6][::-1], FROM_PLAIN[7][::-1], 6),
    (all_pipes, ((0, 1, 4, 3, 2, 5),), (plain_order(7),), 6),
    (count_pipes, ((0, 1, 5, 8, 7, 6, 4, 3, 2),), (plain_order(10),), 9),
    (order_sum, ((0, 1, 6, 5, 4, 3, 2),), (plain_order(8),), 7),
    (climbs, (30, CLIMB[:10]), (30, CLIMB), 10),
    (climbs, (30, (28, 26, 24, 22)), (30, CLIMB[::-1]), 10),
    (orders_up, (plain_order(29), 28), (plain_order(30), 0), 30),
    (orders_up, (last_order(29), 0), (last_order(30), 29), 30),
    (in_orders, (7, ()), (8, ()), 7),
    (in_orders, (7, (((6, 5, 4, 3, 2, 1, 0), 1),)), (30, (((0,) * 30, 1),)), 7),
    (is_sorter, (10, ((0, 9),) * 120), (11, ()), 10),
    (unsorted_marks, (10, ((0, 9),) * 120), (11, ()), 10),
    (first_unsorted, (10, ((0, 9),) * 120), (30, ()), 10),
    (idle_comparers, (10, ((0, 9),) * 120), (11, ((0, 1),)), 10),
    (without_idle, (10, ((0, 9),) * 120), (11, ((0, 1),)), 10),
    (first_parted, (10, ((0, 9),) * 120, ()), (11, (), ()), 10),
    (near_net, (30, (28,) * 120), (30, (28,) * 121), 120),
    (near_net, (1, ()), (2, (0,) * 450), 120),
    (fewest_more, (4, ((0, 3),) * 120), (5, ()), 4),
    (more_for, (4, ()), (5, ((0, 3),) * 120), 4),
    (stacks_needed, ((8, 6, 7, 4, 5, 2, 3, 0, 1),), (plain_order(10),), 9),
    (stacks_way, (plain_order(9), 9), (plain_order(10), 1), 9),
    (is_stacks_way, (plain_order(9), None), (plain_order(10), None), 9),
    (both_spread, ("size", "weight", 6), ("size", "weight", 7), 6),
    (spots, (last_order(12), (4, 3, 2, 1, 0)), (plain_order(13), (0,)), 12),
    (count_spots, (plain_order(12), (0, 1, 2, 3, 4)), (last_order(13), (0,)), 12),
    (orders_without, (6, ((0, 1, 2, 3, 4),) * 6), (7, ((0,),)), 6),
    (count_without, (7, ((0, 1, 2, 3, 4),) * 6), (8, ((0,),)), 7),
    (rows_told, (last_order(5), (("does", 9, 3, True),) * 8), (plain_order(6), ()), 5),
    (surely_ahead, (last_order(5), (), (0, 1), (3, 4)), (last_order(6), (), (0, 1), (3, 4)), 5),
    (fewest_items, (last_order(5), some_row(last_order(5))), (last_order(6), some_row(last_order(6))), 5),
)

# Calls that are beyond a limit, and wrong besides.
BESIDES = (
    (errors.InvalidNumber, row_with, (last_order(8), -1)),
    (errors.InvalidNumber, row_with, (last_order(8), None)),
    (errors.InvalidRow, row_number_of, (last_order(8), ())),
    (errors.InvalidRow, row_number_of, (last_order(30), (0, 0))),
    (errors.InvalidOrder, side_by_side, (plain_order(30), (1,))),
    (errors.InvalidRow, lot_size, (30, (0,) * 451)),
    (errors.InvalidRow, move_way, (30, CLIMB, CLIMB + (10,))),
    (errors.Unlike, move_way, (30, CLIMB, CLIMB[::-1])),
    (errors.Unlike, fewest_moves, (6, (0,), ())),
    (errors.Unlike, fewest_near, (6, (0,), ())),
    (errors.InvalidDrawing, turnings_to, ((6, ()), (13, ()))),
    (errors.Unlike, turnings_to, ((6, ()), (7, ()))),
    (errors.InvalidTriples, drawing_late, (plain_order(13), ((0, 1, 2),))),
    (errors.InvalidPath, with_path, ((12, ()), (0,) * 11)),
    (errors.InvalidPath, with_path, (drawn(2, (0,) * 199), (7, 8))),
    (errors.InvalidLaying, count_rows_of, (last_order(8), ())),
    (errors.InvalidLaying, turns_between, (plain_order(6), (), None)),
    (errors.InvalidLaying, count_roads, (last_order(30), ())),
    (errors.InvalidLaying, orders_within, (last_order(7), ())),
    (errors.Unlike, weakly_between, (plain_order(7), plain_order(8))),
    (errors.Unlike, count_weak_ways, (plain_order(7), plain_order(6))),
    (errors.Unlike, strongly_between, (plain_order(7), plain_order(6))),
    (errors.Unlike, count_strong_ways, (plain_order(6), plain_order(7))),
    (errors.Unlike, least_above, (plain_order(30), plain_order(7))),
    (errors.Unlike, step_polynomial, (plain_order(30), plain_order(7))),
    (errors.InvalidOrder, least_above, (plain_order(30), ())),
    (errors.InvalidRow, climbs, (30, (0,) * 11)),
    (errors.InvalidPlace, orders_up, (plain_order(30), 30)),
    (errors.InvalidSum, in_orders, (8, None)),
    (errors.InvalidSum, in_orders, (8, (((8,) + (0,) * 7, 1),))),
    (errors.InvalidNet, is_sorter, (11, None)),
    (errors.InvalidNet, unsorted_marks, (11, ((0, 11),))),
    (errors.InvalidNet, first_unsorted, (11, ((1, 0),))),
    (errors.InvalidNet, idle_comparers, (11, ((0, 1),) * 121)),
    (errors.InvalidNet, without_idle, (30, [])),
    (errors.InvalidNet, first_parted, (11, (), None)),
    (errors.InvalidRow, near_net, (30, (29,) * 121)),
    (errors.InvalidRow, near_net, (30, (0,) * 451)),
    (errors.InvalidNet, fewest_more, (5, None)),
    (errors.InvalidNet, more_for, (30, ((0, 30),))),
    (errors.InvalidNumber, stacks_way, (plain_order(10), 0)),
    (errors.InvalidNumber, stacks_way, (plain_order(30), 10)),
    (errors.InvalidWord, both_spread, ("size", "none", 7)),
    (errors.InvalidMany, both_spread, ("size", "size", 31)),
    (errors.InvalidPattern, spots, (plain_order(13), (0, 1, 2, 3, 4, 5))),
    (errors.InvalidPattern, count_spots, (plain_order(30), ())),
    (errors.InvalidPatterns, orders_without, (7, ())),
    (errors.InvalidPatterns, count_without, (8, ((0,),) * 7)),
    (errors.InvalidFacts, rows_told, (plain_order(6), (("does", 0, 0, True),))),
    (errors.InvalidFacts, rows_told, (last_order(6), (("does", 0, 0, True),) * 9)),
    (errors.InvalidPairs, surely_ahead, (last_order(6), (), (0, 1), (0, 1))),
    (errors.InvalidRow, fewest_items, (last_order(6), ())),
    (errors.InvalidRow, fewest_items, (plain_order(30), (0,))),
)


class Limits(unittest.TestCase):
    def test_at_the_limit(self):
        for function, within, _, _ in TABLE:
            function(*within)

    def test_beyond_it(self):
        for function, _, beyond, limit in TABLE:
            with self.assertRaises(errors.TooMany, msg=function.__name__) as caught:
                function(*beyond)
            self.assertEqual(caught.exception.limit, limit)

    def test_other_errors_come_first(self):
        for error, function, args in BESIDES:
            with self.assertRaises(errors.OrderError) as caught:
                function(*args)
            self.assertIs(caught.exception.__class__, error, function.__name__)

    def test_number_beyond_behind_too_many(self):
        with self.assertRaises(errors.TooMany):
            row_with(plain_order(8), BIG)
        with self.assertRaises(errors.InvalidNumber):
            row_with(plain_order(7), 1)

    def test_no_limit_elsewhere(self):
        self.assertIsNone(triple_bar(last_order(13), ()))
        self.assertFalse(is_triple_bar(last_order(30), (), ()))
        self.assertEqual(first_row_of(plain_order(30), ()), ())
        self.assertEqual(sixes(plain_order(30), ()), [])
        self.assertEqual(len(points_of(plain_order(30), ())), 31)
        self.assertEqual(laying_mirrored(plain_order(30), ()), ())
        square = (tuple(range(28)), 28, 29)
        self.assertFalse(comes_behind(plain_order(28) + (29, 28), (square,), square, square))
        self.assertEqual(count_numbered((449, 1)), 449)
        self.assertEqual(len(weak_way(*FROM_PLAIN[30])), 435)
        self.assertEqual(len(strong_way(*FROM_PLAIN[30])), 436)
        self.assertEqual((weak_signed(*FROM_PLAIN[30]), strong_signed(*FROM_PLAIN[30])), (-1, -1))
        self.assertTrue(is_smooth(last_order(30)))
        self.assertEqual(low_pipes(last_order(30)), high_pipes(last_order(30)))
        self.assertEqual(count_climbs(30, CLIMB[::-1]), 1)
        self.assertEqual(fall_step(plain_order(28) + (29, 28))[0], 28)
        self.assertEqual(len(layers_of(30, ((0, 1), (1, 2)) * 60)), 120)
        self.assertEqual((near_more(30, ()), len(near_rest(30, ()))), (435, 435))
        self.assertEqual(kept_row(30, (28,) * 450), (28,))
        self.assertEqual((stack_passes(last_order(30)), bubble_passes(last_order(30))), (1, 29))
        self.assertFalse(is_lines_way(last_order(30), None))
        self.assertEqual((len(spread("size", 30)), len(signed_spread("size", 30))), (436, 436))

    def test_no_limit_of_life(self):
        great = 10 ** 30
        self.assertEqual(count_falls_at(30, ()), 1)
        self.assertGreater(count_sized(great, 25), great ** 24)
        self.assertGreater(count_ringed(great, 12), great ** 23)
        self.assertIn(falls_rest(great, 25, 10 ** 12), range(10 ** 12))
        self.assertIn(unstill_rest(great, 2000), range(2000))
        self.assertEqual((size_to_weight(last_order(30)), tops_to_rings(plain_order(30))), (last_order(30), plain_order(30)))
        self.assertFalse(has_pattern(last_order(30), (0, 1, 2, 3, 4)))
        row = (28, 0) * 225
        self.assertTrue(are_shares(30, row, ((BIG, 1),) * 450))
        self.assertEqual(heights_of(30, row, 0)[-1], 1)
        self.assertEqual(span_at(30, row, ((1, 1),) * 450, 28, 29), (225, 1))
        self.assertEqual(len(all_stepped(STATE, (("about",),) * 12)), 13)
        self.assertFalse(is_script((("about",),) * 13))

    def test_limits_of_objects(self):
        whole = Spanned.ones(30, (28, 0) * 225)
        for beyond in (lambda: whole + Spanned.ones(30, (0,)), lambda: whole.__iadd__(whole)):
            with self.assertRaises(errors.TooMany) as caught:
                beyond()
            self.assertEqual(caught.exception.limit, 450)
        bench = Bench(STATE)
        for _ in range(60):
            bench += ()
        for beyond in (lambda: bench.do(("about",)), lambda: bench.__iadd__(())):
            with self.assertRaises(errors.TooMany) as caught:
                beyond()
            self.assertEqual(caught.exception.limit, 60)
