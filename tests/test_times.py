"""The greatest inputs within the limits are answered, and in what time."""

import itertools
import math
import random
import time
import unittest

from tests.values import BIG
from wiredorders.bigcounts import count_falls_at, count_ringed, count_sized, falls_rest, unstill_rest
from wiredorders.climbs import climb_of, climbs, count_climbs
from wiredorders.codes import order_with
from wiredorders.countcarried import rings_to_tops, size_to_weight, tops_to_rings, weight_to_size
from wiredorders.countwords import both_spread, signed_spread, spread
from wiredorders.lifebenches import Bench
from wiredorders.lifestates import all_stepped, is_state, step_back
from wiredorders.lifetexts import read_shares, shares_text
from wiredorders.lifevalues import Spanned
from wiredorders.nearnets import fewest_more, near_rest
from wiredorders.nets import first_parted, first_unsorted, idle_comparers, sorted_by, unsorted_marks
from wiredorders.orders import last_order, plain_order
from wiredorders.overtakings import some_row
from wiredorders.patterns import count_spots, count_without, has_pattern, orders_without
from wiredorders.pipeproducts import fall_step, in_orders, orders_up
from wiredorders.pipes import low_pipes, pipes_row
from wiredorders.pipesums import is_pipe_sum, order_sum, stepped_down, sum_at, sums_added, sums_multiplied
from wiredorders.spans import heights_of, met_pairs, moved_near, span, span_at
from wiredorders.stacks import count_lined, falling_places, stack_passes, stacks_needed, stacks_way
from wiredorders.tellrows import fewest_items, rows_told, surely_ahead
from wiredorders.vexing import has_one, is_vexing, vexing_count

WORDS = ("size", "falls", "weight", "rings", "tops", "stills", "overs")
AROUND = (0,) + tuple(range(29, 0, -1))


def great_sum(first):
    """Return a sum of 400 pairs, 30 things and great powers and numbers."""
    return tuple(
        ((first, at // 20, at % 20) + (60,) * 27, (-1) ** at * (10 ** 30 - at)) for at in range(400)
    )


def great_narrow_sum():
    chance = random.Random(9)
    every = list(itertools.product(*[range(7 - thing) for thing in range(7)]))
    return tuple((powers, chance.choice((-1, 1)) * 10 ** 30) for powers in sorted(chance.sample(every, 400)))


class Times(unittest.TestCase):
    def within(self, seconds, function, *args):
        start = time.perf_counter()
        found = function(*args)
        self.assertLess(time.perf_counter() - start, seconds, function.__name__)
        return found

    def test_sums(self):
        one, other = great_sum(60), great_sum(59)
        self.assertTrue(self.within(1, is_pipe_sum, 30, one))
        self.assertEqual(len(self.within(2, sums_added, 30, one, other)), 800)
        self.assertEqual(len(self.within(10, sums_multiplied, 30, one, other)), 39 * 39)
        spaced = tuple(((at // 20 * 3, at % 20 * 3) + (60,) * 28, 10 ** 30) for at in range(400))
        shifted = tuple(((at // 3, at % 3) + (60,) * 28, 1) for at in range(9))
        self.assertEqual(len(self.within(10, sums_multiplied, 30, spaced, shifted)), 3600)
        wide = tuple(((at, 0) + (1,) * 28, 1) for at in range(61))
        self.assertEqual(len(self.within(10, stepped_down, 30, wide, 0)), 61 * 60 // 2)
        self.within(10, stepped_down, 30, one, 1)
        self.within(5, sum_at, 30, one, (-1000, 1000) * 15)
        for number in (2539, 5039, 719, 4000):
            self.within(2, order_sum, order_with(7, number))

    def test_climbs(self):
        row = tuple(range(17, 7, -1))
        self.assertEqual(len(self.within(5, climbs, 30, row)), math.comb(18, 10))
        low = low_pipes(last_order(30))
        self.assertEqual(len(self.within(2, climb_of, 30, low)), 435)
        self.assertEqual(self.within(2, count_climbs, 30, pipes_row(30, low)), 1)

    def test_products(self):
        found = self.within(10, in_orders, 7, great_narrow_sum())
        self.assertGreater(len(found), 400)
        self.within(2, orders_up, tuple(range(14, -1, -1)) + tuple(range(28, 14, -1)), 14)
        self.within(2, fall_step, AROUND)

    def test_vexing(self):
        self.assertEqual(self.within(5, vexing_count, AROUND), math.comb(58, 29) // 30)
        for order in (AROUND, plain_order(30), last_order(30), tuple(range(15, 30)) + tuple(range(15))):
            self.within(5, is_vexing, order)
            self.within(5, has_one, order)

    def test_nets(self):
        for net in (((0, 9),) * 120, tuple((at % 9, at % 9 + 1) for at in range(120)), ((0, 5), (2, 7), (1, 9)) * 40):
            self.within(5, first_unsorted, 10, net)
            self.within(5, unsorted_marks, 10, net)
            self.within(5, idle_comparers, 10, net)
            self.within(5, first_parted, 10, net, net[::-1])
            self.within(2, sorted_by, last_order(30), net)
        for net in ((), ((0, 3),) * 120, ((1, 2),)):
            self.within(5, fewest_more, 4, net)
        self.assertEqual(len(self.within(5, near_rest, 30, ())), 435)

    def test_stacks(self):
        for number in (0, 9, 1000, 123456, 362879, 40319, 80640, 200000):
            order = order_with(9, number)
            number = self.within(5, stacks_needed, order)
            self.assertIsNotNone(self.within(5, stacks_way, order, number))
            self.assertIsNotNone(self.within(5, stacks_way, order, 9))
        self.assertEqual(self.within(5, stack_passes, tuple(range(1, 30)) + (0,)), 29)
        self.assertEqual(len(self.within(5, falling_places, last_order(30))), 30)
        for number in (1, 15, 30):
            self.within(5, count_lined, 30, number)

    def test_words(self):
        for word in WORDS:
            self.within(2, spread, word, 30)
            self.within(2, signed_spread, word, 30)
            self.within(5, both_spread, word, "size", 6)

    def test_carried(self):
        for order in (AROUND, last_order(30), plain_order(30), tuple(range(15, 30)) + tuple(range(15))):
            for there, back in ((weight_to_size, size_to_weight), (rings_to_tops, tops_to_rings)):
                self.assertEqual(self.within(2, back, self.within(2, there, order)), order)

    def test_patterns(self):
        fives = ((0, 1, 2, 3, 4), (4, 3, 2, 1, 0), (0, 2, 1, 3, 4), (1, 0, 2, 4, 3), (0, 1, 2, 4, 3), (2, 0, 1, 4, 3))
        self.within(20, count_without, 7, fives)
        self.within(20, count_without, 7, fives[:1] * 6)
        self.within(10, orders_without, 6, fives)
        for pattern in fives:
            for order in (plain_order(30), last_order(30), tuple(range(15, 30)) + tuple(range(15)), tuple(at ^ 1 for at in range(30))):
                self.within(5, has_pattern, order, pattern)
            self.within(2, count_spots, plain_order(12), pattern)

    def test_great_counts(self):
        great = 10 ** 30
        self.within(2, count_falls_at, 30, tuple(range(0, 29, 2)))
        self.within(2, count_sized, great, 25)
        self.within(2, count_ringed, great, 12)
        self.within(2, falls_rest, great, 25, 10 ** 12)
        for modulus in (2000, 1999, 1):
            self.within(2, unstill_rest, great, modulus)

    def test_spans(self):
        row = some_row(last_order(30))
        mixed = (tuple(range(29)) * 16)[:450]
        for each, shares in (
            (row, ((1, 1),) * 435), (row, tuple((at + 1, at + 2) for at in range(435))), (mixed, ((999, 1000), (1000, 999)) * 225),
            (mixed, tuple((10 ** 30 + at, 10 ** 30 + at + 1) for at in range(450))),
        ):
            table = self.within(10, span, 30, each, shares)
            self.assertEqual(self.within(2, span_at, 30, each, shares, 0, 29), table[0][29])
        # Shares of as many digits as any integer has.
        great = tuple((BIG - at, BIG - at - 1) for at in range(450))
        self.within(60, span, 30, mixed, great)
        self.within(20, span_at, 30, mixed, great, 0, 29)
        self.within(2, met_pairs, 30, mixed)
        self.within(2, heights_of, 30, mixed, 0)
        self.within(2, moved_near, 30, (0, 1, 0) * 150, great, 447)
        self.assertEqual(self.within(5, read_shares, 30, mixed, self.within(5, shares_text, 30, mixed, great)), great)

    def test_states_and_objects(self):
        row = some_row(last_order(30))
        state = (30, row, tuple((at + 1, at + 2) for at in range(435)), 0, 29)
        self.assertTrue(self.within(1, is_state, state))
        script = (("over",), ("scale", 29, (1000, 999)), ("scale", 0, (999, 1000)), ("watch", 0)) * 3
        self.assertEqual(len(self.within(5, all_stepped, state, script)), 13)
        self.assertEqual(self.within(2, step_back, state, ("scale", 28, (1000, 1))), ("scale", 28, (1, 1000)))
        bench = Bench(state)

        def walk():
            for _ in range(60):
                bench.__iadd__(script)
            while len(bench):
                bench.undo()
            for _ in range(60):
                bench.redo()

        self.within(30, walk)
        self.assertEqual(len(bench.log), 720)
        self.within(10, lambda: bench.table)
        self.within(2, lambda: list(bench.lines()))
        one = Spanned(*state[:3])
        self.assertTrue(self.within(20, one.same, Spanned(*state[:3])))
        self.within(5, lambda: (one(0, 29), str(one), bool(one), ~one, (0, 29) in one))

    def test_rows_told(self):
        last = last_order(5)
        self.assertEqual(len(self.within(5, rows_told, last, ())), 768)
        self.within(5, rows_told, last, (("ahead", (0, 1), (3, 4), True),) * 8)
        self.within(5, surely_ahead, last, (("meets", 9, (3, 4), False),) * 8, (0, 1), (3, 4))
        for row in ((0, 2, 1, 3, 2, 0, 1, 3, 0, 2), (0, 1, 0, 2, 1, 0, 3, 2, 1, 0), (3, 2, 1, 0, 3, 2, 1, 3, 2, 3)):
            self.within(5, fewest_items, last, row)


if __name__ == "__main__":
    unittest.main()
