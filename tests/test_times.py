"""The greatest inputs within the limits are answered, and in what time."""

import itertools
import math
import random
import time
import unittest

from wiredorders.climbs import climb_of, climbs, count_climbs
from wiredorders.codes import order_with
from wiredorders.countwords import both_spread, signed_spread, spread
from wiredorders.nearnets import fewest_more, near_rest
from wiredorders.nets import first_parted, first_unsorted, idle_comparers, sorted_by, unsorted_marks
from wiredorders.orders import last_order, plain_order
from wiredorders.pipeproducts import fall_step, in_orders, orders_up
from wiredorders.pipes import low_pipes, pipes_row
from wiredorders.pipesums import is_pipe_sum, order_sum, stepped_down, sum_at, sums_added, sums_multiplied
from wiredorders.stacks import count_lined, falling_places, stack_passes, stacks_needed, stacks_way
from wiredorders.vexing import has_one, is_vexing, vexing_count

WORDS = ("size", "falls", "weight", "rings", "tops", "stills", "overs")
AROUND = (0,) + tuple(range(29, 0, -1))


def great_sum(first):
    """Return a sum of 400 pairs, 30 things and great powers and numbers."""
    return tuple(
        ((first, at // 20, at % 20) + (60,) * 27, (-1) ** at * (10 ** 30 - at)) for at in range(400)
    )


def great_narrow_sum():
    chance = random.Random(9)
    every = list(itertools.product(*[range(7 - thing) for thing in range(7)]))
    return tuple((powers, chance.choice((-1, 1)) * 10 ** 30) for powers in sorted(chance.sample(every, 400)))


class Times(unittest.TestCase):
    def within(self, seconds, function, *args):
        start = time.perf_counter()
        found = function(*args)
        self.assertLess(time.perf_counter() - start, seconds, function.__name__)
        return found

    def test_sums(self):
        one, other = great_sum(60), great_sum(59)
        self.assertTrue(self.within(1, is_pipe_sum, 30, one))
        self.assertEqual(len(self.within(2, sums_added, 30, one, other)), 800)
        self.assertEqual(len(self.within(10, sums_multiplied, 30, one, other)), 39 * 39)
        spaced = tuple(((at // 20 * 3, at % 20 * 3) + (60,) * 28, 10 ** 30) for at in range(400))
        shifted = tuple(((at // 3, at % 3) + (60,) * 28, 1) for at in range(9))
        self.assertEqual(len(self.within(10, sums_multiplied, 30, spaced, shifted)), 3600)
        wide = tuple(((at, 0) + (1,) * 28, 1) for at in range(61))
        self.assertEqual(len(self.within(10, stepped_down, 30, wide, 0)), 61 * 60 // 2)
        self.within(10, stepped_down, 30, one, 1)
        self.within(5, sum_at, 30, one, (-1000, 1000) * 15)
        for number in (2539, 5039, 719, 4000):
            self.within(2, order_sum, order_with(7, number))

    def test_climbs(self):
        row = tuple(range(17, 7, -1))
        self.assertEqual(len(self.within(5, climbs, 30, row)), math.comb(18, 10))
        low = low_pipes(last_order(30))
        self.assertEqual(len(self.within(2, climb_of, 30, low)), 435)
        self.assertEqual(self.within(2, count_climbs, 30, pipes_row(30, low)), 1)

    def test_products(self):
        found = self.within(10, in_orders, 7, great_narrow_sum())
        self.assertGreater(len(found), 400)
        self.within(2, orders_up, tuple(range(14, -1, -1)) + tuple(range(28, 14, -1)), 14)
        self.within(2, fall_step, AROUND)

    def test_vexing(self):
        self.assertEqual(self.within(5, vexing_count, AROUND), math.comb(58, 29) // 30)
        for order in (AROUND, plain_order(30), last_order(30), tuple(range(15, 30)) + tuple(range(15))):
            self.within(5, is_vexing, order)
            self.within(5, has_one, order)

    def test_nets(self):
        for net in (((0, 9),) * 120, tuple((at % 9, at % 9 + 1) for at in range(120)), ((0, 5), (2, 7), (1, 9)) * 40):
            self.within(5, first_unsorted, 10, net)
            self.within(5, unsorted_marks, 10, net)
            self.within(5, idle_comparers, 10, net)
            self.within(5, first_parted, 10, net, net[::-1])
            self.within(2, sorted_by, last_order(30), net)
        for net in ((), ((0, 3),) * 120, ((1, 2),)):
            self.within(5, fewest_more, 4, net)
        self.assertEqual(len(self.within(5, near_rest, 30, ())), 435)

    def test_stacks(self):
        for number in (0, 9, 1000, 123456, 362879, 40319, 80640, 200000):
            order = order_with(9, number)
            number = self.within(5, stacks_needed, order)
            self.assertIsNotNone(self.within(5, stacks_way, order, number))
            self.assertIsNotNone(self.within(5, stacks_way, order, 9))
        self.assertEqual(self.within(5, stack_passes, tuple(range(1, 30)) + (0,)), 29)
        self.assertEqual(len(self.within(5, falling_places, last_order(30))), 30)
        for number in (1, 15, 30):
            self.within(5, count_lined, 30, number)

    def test_words(self):
        for word in WORDS:
            self.within(2, spread, word, 30)
            self.within(2, signed_spread, word, 30)
            self.within(5, both_spread, word, "size", 6)


if __name__ == "__main__":
    unittest.main()
