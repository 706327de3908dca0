"""Moves of rows and what the steps of rows do, against plain rules."""

import itertools
import unittest

from tests.test_rows import LONG, least_rows
from tests.values import led_to, least, pairs_over
from wiredorders.leastrows import first_row, last_row, rows_of
from wiredorders.orders import last_order, led_on, order_behind, plain_order, swapped
from wiredorders.overtakings import is_least_row, overtakings, size_of, some_row
from wiredorders.rowmoves import fewest_moves, fewest_near, is_move_way, move_way, row_moved, row_moves
from wiredorders.rowsteps import (
    are_row_overtakings, goes_for, is_kept, kept_steps, pushed_order, row_by_overtakings, row_overtakings, waste,
)


def moves_of(row):
    """Return all moves of a row, each with the row behind it."""
    found = []
    for at in range(len(row) - 1):
        if abs(row[at] - row[at + 1]) >= 2:
            found.append((("far", at), row[:at] + (row[at + 1], row[at]) + row[at + 2:]))
    for at in range(len(row) - 2):
        i, j, k = row[at:at + 3]
        if i == k and abs(i - j) == 1:
            found.append((("near", at), row[:at] + (j, i, j) + row[at + 3:]))
    return found


def costs_from(start, cost):
    """Return the least cost of moves to each row that moves lead to."""
    costs = {start: 0}
    while True:
        better = {}
        for row, held in costs.items():
            for move, reached in moves_of(row):
                told = held + cost[move[0]]
                if told < min(costs.get(reached, told + 1), better.get(reached, told + 1)):
                    better[reached] = told
        if not better:
            return costs
        costs.update(better)


class Moves(unittest.TestCase):
    def test_all_rows(self):
        for many, length in ((2, 3), (3, 4), (4, 5), (5, 4)):
            for row in itertools.product(range(many - 1), repeat=length):
                told = sorted(moves_of(row))
                self.assertEqual(row_moves(many, row), [move for move, _ in told])
                for move, reached in told:
                    self.assertEqual(row_moved(many, row, move), reached)
                    self.assertTrue(is_move_way(many, row, reached, (move,)))
                    self.assertFalse(is_move_way(many, row, row, (move,)))
                    self.assertTrue(is_move_way(many, row, row, (move, move)))
                    self.assertFalse(is_move_way(many, row, reached, [move]))
        self.assertEqual((row_moves(1, ()), row_moves(30, (0,)), row_moves(30, (0, 0, 0))), ([], [], []))

    def test_long_rows(self):
        self.assertEqual(row_moves(30, (0, 28) * 225), [("far", at) for at in range(449)])
        self.assertEqual(row_moves(30, (27, 28) * 225), [("near", at) for at in range(448)])
        self.assertEqual(row_moved(30, (27, 28) * 225, ("near", 447)), (27, 28) * 223 + (27, 27, 28, 27))
        way = tuple(("far", at) for at in range(449))
        self.assertTrue(is_move_way(30, (0,) + (28,) * 449, (28,) * 449 + (0,), way))
        self.assertFalse(is_move_way(30, (0,) + (28,) * 449, (28,) * 449 + (0,), way[:-1]))
        self.assertFalse(is_move_way(30, (0,), (0, 0), ()))

    def test_fewest(self):
        for many in (1, 2, 3, 4):
            for order, rows in least_rows(many).items():
                for row in rows:
                    every, near = costs_from(row, {"far": 1, "near": 1}), costs_from(row, {"far": 0, "near": 1})
                    self.assertEqual(sorted(every), rows)
                    for other in rows:
                        self.assertEqual(fewest_moves(many, row, other), every[other])
                        self.assertEqual(fewest_near(many, row, other), near[other])

    def test_fewest_of_five(self):
        rows = rows_of(last_order(5))
        for row in (rows[0], rows[300]):
            every, near = costs_from(row, {"far": 1, "near": 1}), costs_from(row, {"far": 0, "near": 1})
            self.assertEqual(sorted(every), rows)
            for other in rows[::7]:
                self.assertEqual(fewest_moves(5, row, other), every[other])
                self.assertEqual(fewest_near(5, row, other), near[other])

    def check_way(self, many, row, other):
        way = move_way(many, row, other)
        self.assertIs(type(way), tuple)
        self.assertLessEqual(len(way), 500)
        self.assertTrue(is_move_way(many, row, other, way))
        for word, at in way:
            row = dict(moves_of(row))[word, at]
        self.assertEqual(row, other)

    def test_ways(self):
        for many in (1, 2, 3, 4):
            for rows in least_rows(many).values():
                for row, other in itertools.product(rows, repeat=2):
                    self.check_way(many, row, other)
        rows = rows_of(last_order(5))
        for row, other in itertools.product(rows[::61], rows[::53]):
            self.check_way(5, row, other)

    def test_ways_of_many_things(self):
        apart = tuple(range(0, 20, 2))
        self.check_way(30, apart, apart[::-1])
        self.check_way(30, (), ())
        for order in ((4, 3, 2, 1, 0) + tuple(range(5, 30)), (2, 1, 0, 5, 4, 3, 8, 7, 6, 10, 9, 11), (5, 6, 0, 1, 2, 3, 4)):
            self.assertLessEqual(size_of(order), 10)
            self.check_way(len(order), first_row(order), last_row(order))
            self.check_way(len(order), last_row(order), some_row(order))


class Steps(unittest.TestCase):
    def pairs_met(self, many, row):
        things = list(range(many))
        pairs = []
        for at in row:
            pairs.append(tuple(sorted(things[at:at + 2])))
            things[at:at + 2] = [things[at + 1], things[at]]
        return pairs

    def test_row_overtakings(self):
        for many in (1, 2, 3, 4):
            right = {}
            for order, rows in least_rows(many).items():
                for row in rows:
                    told = row_overtakings(many, row)
                    self.assertEqual(told, tuple(self.pairs_met(many, row)))
                    self.assertEqual(sorted(told), pairs_over(order))
                    self.assertTrue(are_row_overtakings(many, told))
                    self.assertEqual(row_by_overtakings(many, told), row)
                    right[told] = row
            every = list(itertools.combinations(range(many), 2))
            for count in range(5):
                for value in itertools.product(every, repeat=count):
                    self.assertEqual(are_row_overtakings(many, value), value in right)

    def test_row_overtakings_of_thirty(self):
        row = some_row(last_order(30))
        told = row_overtakings(30, row)
        self.assertEqual(sorted(told), overtakings(last_order(30)))
        self.assertEqual(row_by_overtakings(30, told), row)
        self.assertFalse(are_row_overtakings(30, told + ((0, 1),)))
        self.assertEqual((row_overtakings(1, ()), row_by_overtakings(1, ())), ((), ()))

    def test_waste_and_kept_steps(self):
        for many, length in ((1, 0), (2, 3), (3, 5), (4, 5), (4, 6)):
            for row in itertools.product(range(many - 1), repeat=length):
                pairs = self.pairs_met(many, row)
                late = [at for at in range(length) if pairs[at] in pairs[:at]]
                told = (max(at for at in range(late[0]) if pairs[at] == pairs[late[0]]), late[0]) if late else None
                self.assertEqual(waste(many, row), told)
                if told:
                    left = [exchange for at, exchange in enumerate(row) if at not in told]
                    self.assertEqual(led_to(many, left), led_to(many, row))
                else:
                    self.assertTrue(least(many, row))
                self.check_kept(many, row)

    def check_kept(self, many, row):
        kept = kept_steps(many, row)
        self.assertIs(type(kept), tuple)
        self.assertEqual(list(kept), sorted(set(kept)))
        items = [row[index] for index in kept]
        self.assertEqual(led_to(many, items), led_to(many, row))
        self.assertTrue(least(many, items))
        self.assertTrue(is_kept(many, row, kept))

    def test_is_kept(self):
        for row in itertools.product(range(2), repeat=5):
            for count in range(6):
                for value in itertools.combinations(range(5), count):
                    items = [row[index] for index in value]
                    right = led_to(3, items) == led_to(3, row) and least(3, items)
                    self.assertEqual(is_kept(3, row, value), right)
                    if count > 1:
                        self.assertFalse(is_kept(3, row, value[::-1]))
        self.assertFalse(is_kept(3, (0, 1), (0, 1, 2)))

    def test_long_rows(self):
        for row in (LONG, (0, 1) * 225, (28,) * 450, (28,) * 449, tuple(range(29)) * 15):
            self.check_kept(30, row)
        self.assertEqual(kept_steps(30, (28,) * 450), ())
        self.assertEqual(waste(30, (28,) * 450), (0, 1))
        self.assertEqual((waste(30, some_row(last_order(30))), waste(1, ()), kept_steps(1, ())), (None, None, ()))

    def test_goes_for(self):
        for many in (2, 3, 4):
            for order, rows in least_rows(many).items():
                for row, exchange in itertools.product(rows, range(many - 1)):
                    told = goes_for(many, row, exchange)
                    aim = led_to(many, row + (exchange,))
                    without = [at for at in range(len(row)) if led_to(many, row[:at] + row[at + 1:]) == aim]
                    self.assertEqual(without, [] if told is None else [told])
                    self.assertEqual(told is None, least(many, row + (exchange,)))
        row = some_row(last_order(30))
        self.assertEqual(row_overtakings(30, row)[goes_for(30, row, 28)], (0, 1))
        self.assertEqual(goes_for(30, (), 28), None)

    def test_pushed(self):
        for many, length in ((1, 0), (2, 2), (3, 4), (4, 4)):
            for row in itertools.product(range(many - 1), repeat=length):
                for order in itertools.permutations(range(many)):
                    held = order
                    for at in row:
                        if held[at] < held[at + 1]:
                            held = swapped(held, at)
                    self.assertEqual(pushed_order(order, row), held)
        row = some_row(last_order(30))
        self.assertEqual(pushed_order(plain_order(30), row), last_order(30))
        self.assertEqual(pushed_order(tuple(7 * place % 31 - 1 for place in range(1, 31)), row), last_order(30))
        self.assertEqual(pushed_order(last_order(30), LONG), last_order(30))


class Statements(unittest.TestCase):
    """What holds for all orders, of few things, about rows, moves and steps."""

    def test_parity_of_moves(self):
        for many in (2, 3, 4, 5):
            for rows in list(least_rows(many).values())[::1 if many < 5 else 9]:
                for word in ("near", "far"):
                    parity, border = {rows[0]: 0}, [rows[0]]
                    while border:
                        row = border.pop()
                        for move in row_moves(many, row):
                            reached = row_moved(many, row, move)
                            told = (parity[row] + (move[0] == word)) % 2
                            self.assertEqual(order_behind(many, reached), order_behind(many, row))
                            if reached not in parity:
                                border.append(reached)
                            self.assertEqual(parity.setdefault(reached, told), told)
                    self.assertEqual(sorted(parity), rows)

    def test_lengths_of_rows(self):
        for many, length in ((2, 4), (3, 5), (4, 6)):
            for row in itertools.product(range(many - 1), repeat=length):
                more = length - size_of(order_behind(many, row))
                self.assertTrue(more >= 0 and more % 2 == 0)
                self.assertEqual(more == 0, is_least_row(many, row))

    def test_near_move_turns_three_about(self):
        for many in (3, 4, 5):
            for rows in least_rows(many).values():
                for row in rows[::1 if many < 5 else 25]:
                    told = row_overtakings(many, row)
                    for word, at in row_moves(many, row):
                        width = 3 if word == "near" else 2
                        turned = told[:at] + told[at:at + width][::-1] + told[at + width:]
                        self.assertEqual(row_overtakings(many, row_moved(many, row, (word, at))), turned)

    def test_row_behind_any_order(self):
        for row in itertools.product(range(3), repeat=4):
            for order in itertools.permutations(range(4)):
                self.assertEqual(led_on(order, row), tuple(order[thing] for thing in order_behind(4, row)))
