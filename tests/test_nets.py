"""Nets of comparers, and near nets, against plain rules."""

import itertools
import random
import unittest

from tests.values import ANY, all_orders, led_to, pairs_over, right_net
from wiredorders.nearnets import fewest_more, is_near, kept_row, more_for, near_more, near_net, near_rest
from wiredorders.nets import (
    first_parted, first_unsorted, idle_comparers, is_net, is_sorter, layers_of, marks_by, sorted_by, unsorted_marks,
    without_idle,
)
from wiredorders.orders import led, order_behind, plain_order

X, Y = ((0, 1), (2, 3), (0, 2), (1, 3), (1, 2)), ((0, 1), (1, 2), (0, 1))
NEAR_SORTER = tuple((at, at + 1) for end in range(9, 0, -1) for at in range(end))


def comparers(many, near=False):
    return [pair for pair in itertools.combinations(range(many), 2) if not near or pair[1] - pair[0] == 1]


def every_net(many, most, near=False):
    """Return the list of all nets of so many things of at most so many comparers."""
    pairs = comparers(many, near)
    return [net for length in range(most + 1) for net in itertools.product(pairs, repeat=length)]


def drawn_nets(chance, many, lengths):
    return [tuple(chance.choice(comparers(many)) for _ in range(length)) for length in lengths]


def by(net, items):
    """Return what a net leads an order, or a row of marks, to."""
    held = list(items)
    for pair in net:
        held[pair[0]], held[pair[1]] = sorted([held[pair[0]], held[pair[1]]])
    return tuple(held)


def all_marks(many):
    return list(itertools.product((0, 1), repeat=many))


def first_of(many, test):
    return next((order for order in all_orders(many) if test(order)), None)


def idle_told(many, net, starts):
    """Return the indices of the comparers that change nothing, whatever one begins with."""
    return [at for at in range(len(net)) if all(by(net[:at], start) == by(net[:at + 1], start) for start in starts)]


class Nets(unittest.TestCase):
    def test_any_value(self):
        for many in (1, 2, 3, 4, 30):
            for index, value in enumerate(ANY):
                self.assertIs(is_net(many, value), right_net(many, value), f"{many}, value {index}")
                near = right_net(many, value) and all(one + 1 == other for one, other in value)
                self.assertIs(is_near(many, value), near, f"{many}, value {index}")

    def test_edges(self):
        self.assertTrue(is_net(2, ((0, 1),) * 120))
        self.assertFalse(is_net(2, ((0, 1),) * 121))
        self.assertTrue(is_net(30, ((0, 29),)))
        self.assertFalse(is_net(30, ((0, 30),)))
        for comparer in ((1, 0), (1, 1), (0, True), (0,), (0, 1, 2), (-1, 0), [0, 1], "01", 0, None):
            self.assertFalse(is_net(3, (comparer,)))
        self.assertFalse(is_net(3, [(0, 1)]))
        self.assertTrue(is_net(1, ()))
        self.assertFalse(is_net(1, ((0, 1),)))

    def test_led(self):
        chance = random.Random(5)
        for many in (1, 2, 3, 4, 6, 30):
            for net in drawn_nets(chance, many, (1, 3, 8, 120)) + [()] if many > 1 else [()]:
                order = tuple(chance.sample(range(many), many))
                self.assertEqual(sorted_by(order, net), by(net, order))
                marks = tuple(chance.randint(0, 1) for _ in range(many))
                self.assertEqual(marks_by(many, net, marks), by(net, marks))

    def test_layers(self):
        chance = random.Random(6)
        for many in (2, 3, 5, 9, 30):
            for net in drawn_nets(chance, many, (0, 1, 2, 5, 20, 120)):
                depth = []
                for at, pair in enumerate(net):
                    ahead = [depth[early] for early in range(at) if set(net[early]) & set(pair)]
                    depth.append(1 + max(ahead, default=-1))
                told = [tuple(net[at] for at in range(len(net)) if depth[at] == layer) for layer in range(max(depth, default=-1) + 1)]
                self.assertEqual(layers_of(many, net), told)
        self.assertEqual(layers_of(1, ()), [])
        self.assertEqual(layers_of(4, ((2, 3), (0, 1))), [((2, 3), (0, 1))])

    def test_sorters_of_few(self):
        for many, most in ((1, 0), (2, 2), (3, 5), (4, 4)):
            for net in every_net(many, most):
                unsorted = [marks for marks in all_marks(many) if by(net, marks) != tuple(sorted(marks))]
                self.assertEqual(unsorted_marks(many, net), unsorted)
                first = first_of(many, lambda order: by(net, order) != plain_order(many))
                self.assertEqual(first_unsorted(many, net), first)
                self.assertIs(is_sorter(many, net), first is None)
                self.assertEqual(first is None, unsorted == [])

    def test_idle_of_few(self):
        for many, most in ((1, 0), (2, 3), (3, 4), (4, 3)):
            for net in every_net(many, most):
                idle = idle_told(many, net, all_orders(many))
                self.assertEqual(idle, idle_told(many, net, all_marks(many)))
                self.assertEqual(idle_comparers(many, net), idle)
                self.assertEqual(without_idle(many, net), tuple(net[at] for at in range(len(net)) if at not in idle))

    def test_parted_of_few(self):
        for many, most in ((1, 0), (2, 2), (3, 3), (4, 2)):
            for one, other in itertools.product(every_net(many, most), repeat=2):
                parted = first_of(many, lambda order: by(one, order) != by(other, order))
                self.assertEqual(first_parted(many, one, other), parted)
                self.assertEqual(parted is None, all(by(one, marks) == by(other, marks) for marks in all_marks(many)))

    def test_more_things(self):
        chance = random.Random(7)
        for many, lengths in ((5, (3, 6, 9, 12, 30)), (6, (5, 12, 20, 60))):
            nets = drawn_nets(chance, many, lengths)
            for net, other in zip(nets, nets[1:] + nets[:1]):
                plain = plain_order(many)
                self.assertEqual(first_unsorted(many, net), first_of(many, lambda order: by(net, order) != plain))
                parted = first_of(many, lambda order: by(net, order) != by(other, order))
                self.assertEqual(first_parted(many, net, other), parted)
                self.assertEqual(idle_comparers(many, net), idle_told(many, net, all_marks(many)))

    def test_ten_things(self):
        self.assertTrue(is_sorter(10, NEAR_SORTER))
        self.assertEqual(idle_comparers(10, NEAR_SORTER), [])
        self.assertEqual(idle_comparers(10, NEAR_SORTER + ((0, 9),) * 75), list(range(45, 120)))
        self.assertEqual(without_idle(10, NEAR_SORTER + ((0, 9),)), NEAR_SORTER)
        self.assertIsNone(first_unsorted(10, NEAR_SORTER))
        # Without its last comparer it leads just those orders astray that need it.
        first = first_unsorted(10, NEAR_SORTER[:-1])
        self.assertEqual(by(NEAR_SORTER[:-1], first), (1, 0) + tuple(range(2, 10)))
        self.assertEqual(first, (1,) + tuple(range(2, 10)) + (0,))
        self.assertEqual(unsorted_marks(10, NEAR_SORTER[:-1]), [(1,) * 9 + (0,)])
        self.assertEqual(len(unsorted_marks(10, ())), 1024 - 11)
        self.assertEqual(first_unsorted(10, ()), (0, 1, 2, 3, 4, 5, 6, 7, 9, 8))
        self.assertIsNone(first_parted(10, NEAR_SORTER, NEAR_SORTER[::-1] + NEAR_SORTER[:75]))
        # The first order whose first thing is greater than its last one.
        self.assertEqual(first_parted(10, ((0, 9),), ()), (1, 2, 3, 4, 5, 6, 7, 8, 9, 0))


class Near(unittest.TestCase):
    def test_near_nets(self):
        for many, row in ((1, ()), (3, (0, 1, 0)), (5, (3, 3, 0)), (30, (28,) * 120)):
            self.assertEqual(near_net(many, row), tuple((at, at + 1) for at in row))

    def test_kept(self):
        for many, most in ((1, 0), (2, 4), (3, 6), (4, 5)):
            for length in range(most + 1):
                for row in itertools.product(range(many - 1), repeat=length):
                    kept = ()
                    for exchange in row:
                        longer = kept + (exchange,)
                        if len(pairs_over(led_to(many, longer))) == len(longer):
                            kept = longer
                    self.assertEqual(kept_row(many, row), kept)
                    self.check_last(many, row, kept)
        self.assertEqual(kept_row(30, (28,) * 450), (28,))

    def check_last(self, many, row, kept):
        """The last order comes out led by that to which the kept row leads; it tells how many comparers are lacking."""
        net = near_net(many, row)
        last = plain_order(many)[::-1]
        behind = sorted_by(last, net)
        self.assertEqual(behind, led(last, order_behind(many, kept)))
        self.assertEqual(is_sorter(many, net), behind == plain_order(many))
        lacking = len(pairs_over(behind))
        self.assertEqual(near_more(many, net), lacking)
        rest = near_rest(many, net)
        self.assertTrue(is_near(many, rest))
        self.assertEqual(len(rest), lacking)
        self.assertTrue(is_sorter(many, net + rest))

    def test_no_fewer_near_ones(self):
        for many, most in ((2, 2), (3, 3), (4, 3)):
            for net in every_net(many, most, near=True):
                lacking = near_more(many, net)
                for rest in every_net(many, lacking - 1, near=True) if lacking < 5 else ():
                    self.assertFalse(is_sorter(many, net + rest))

    def test_thirty_things(self):
        for row in ((), (28,) * 120, tuple(range(29)) * 4, tuple(range(28, -1, -1)) * 4):
            net = near_net(30, row)
            rest = near_rest(30, net)
            self.assertEqual(len(rest), near_more(30, net))
            self.assertEqual(by(net + rest, range(29, -1, -1)), plain_order(30))
        self.assertEqual(near_more(30, ()), 435)
        self.assertEqual(near_more(1, ()), 0)
        self.assertEqual(near_rest(1, ()), ())

    def test_fewest(self):
        for many, most in ((1, 0), (2, 2), (3, 3), (4, 2)):
            for net in every_net(many, most):
                lacking = next(
                    length for length in range(6)
                    for rest in itertools.product(comparers(many), repeat=length) if self.sorts(many, net + rest)
                )
                self.assertEqual(fewest_more(many, net), lacking)
                rest = more_for(many, net)
                self.assertTrue(is_net(many, rest))
                self.assertEqual(len(rest), lacking)
                self.assertTrue(self.sorts(many, net + rest))
        self.assertEqual(fewest_more(4, ((0, 1),) * 120), 4)
        self.assertTrue(self.sorts(4, ((1, 2),) * 120 + more_for(4, ((1, 2),) * 120)))

    def sorts(self, many, net):
        return all(by(net, marks) == tuple(sorted(marks)) for marks in all_marks(many))


if __name__ == "__main__":
    unittest.main()
