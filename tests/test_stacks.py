"""Stacks, lines and bubble passes, against plain rules."""

import functools
import itertools
import math
import random
import unittest

from tests.values import ANY, all_orders, are_ints, rises
from wiredorders.orders import last_order, plain_order
from wiredorders.stacks import (
    bubble_pass, bubble_passes, count_bubbled, count_lined, count_stacked, falling_places, is_lines_way, is_stack_bar,
    is_stacks_way, lines_needed, lines_way, stack_bar, stack_moves, stack_pass, stack_passes, stacks_needed, stacks_way,
)

M = (3, 0, 4, 1, 2)
FEW = [order for many in (1, 2, 3, 4, 5) for order in all_orders(many)]
CHANCE = random.Random(8)
LONG = [tuple(CHANCE.sample(range(30), 30)) for _ in range(6)] + [last_order(30), plain_order(30)]


def out_by(order, moves):
    """Return what a stack gives out by its moves, or None if they cannot be made."""
    coming, held, given = list(order), [], []
    for move in moves:
        if not (coming if move == "I" else held):
            return None
        if move == "I":
            held.append(coming.pop(0))
        else:
            given.append(held.pop())
    return tuple(given) if not coming and not held else None


@functools.lru_cache(None)
def all_moves(many):
    return [moves for moves in map("".join, itertools.product("IO", repeat=2 * many)) if out_by(range(many), moves)]


def is_bar(order, bar):
    return rises(bar) and order[bar[2]] < order[bar[0]] < order[bar[1]]


def passed(order):
    """Return the order behind a stack pass: all ahead of the greatest thing, all behind it, and itself."""
    if len(order) < 2:
        return order
    at = order.index(max(order))
    return passed(order[:at]) + passed(order[at + 1:]) + order[at:at + 1]


def bubbled(order):
    things = list(order)
    for at in range(len(order) - 1):
        things[at:at + 2] = sorted(things[at:at + 2])
    return tuple(things)


def passes_of(order, step):
    count = 0
    while order != plain_order(len(order)):
        order, count = step(order), count + 1
    return count


def comes_out(order, way, first_out):
    """Tell whether all things can come out in ascending order, each taken in by its line or stack."""
    held = [[] for _ in range(max(way) + 1)]
    given = 0
    for thing, at in zip(order, way):
        held[at].append(thing)
        given = self_out(held, given, first_out)
    return given == len(order)


def self_out(held, given, first_out):
    """Give out all that can come out in ascending order; return how many have come out then."""
    moved = True
    while moved:
        moved = False
        for each in held:
            if each and each[0 if first_out else -1] == given:
                each.pop(0 if first_out else -1)
                given, moved = given + 1, True
    return given


def fewest_of(order, first_out):
    """Return the least number for which there is a way, and all ways for so many."""
    for number in range(1, len(order) + 1):
        every = itertools.product(range(number), repeat=len(order))
        ways = [way for way in every if comes_out(order, way, first_out)]
        if ways:
            return number, set(ways)
    return None


class Stack(unittest.TestCase):
    def test_moves_and_bars(self):
        for order in FEW:
            plain = plain_order(len(order))
            found = [moves for moves in all_moves(len(order)) if out_by(order, moves) == plain]
            self.assertEqual([stack_moves(order)], found or [None])
            bars = [bar for bar in itertools.combinations(range(len(order)), 3) if is_bar(order, bar)]
            self.assertEqual(stack_bar(order) is None, bars == [])
            self.assertIn(stack_bar(order), bars or [None])
            self.assertEqual(stack_moves(order) is None, bars != [])
            self.assertEqual(stack_pass(order) == plain, bars == [])

    def test_any_value(self):
        for order in ((0,), (1, 0), (1, 2, 0), (1, 2, 3, 0), M, (2, 0, 1)):
            for index, value in enumerate(ANY):
                right = are_ints(value, 0, len(order) - 1) and len(value) == 3 and is_bar(order, value)
                self.assertIs(is_stack_bar(order, value), right, f"{order}, value {index}")
        self.assertFalse(is_stack_bar((1, 2, 0), (0, True, 2)))
        self.assertFalse(is_stack_bar((1, 2, 0), [0, 1, 2]))
        self.assertFalse(is_stack_bar((1, 2, 0), (0, 1, 3)))

    def test_passes(self):
        for order in FEW + all_orders(6)[::7] + LONG:
            self.assertEqual(stack_pass(order), passed(order))
            self.assertEqual(stack_passes(order), passes_of(order, passed))
            self.assertEqual(bubble_pass(order), bubbled(order))
            count = passes_of(order, bubbled)
            self.assertEqual(bubble_passes(order), count)
            ahead = [len([other for other in order[:at] if other > thing]) for at, thing in enumerate(order)]
            self.assertEqual(count, max(ahead))
        self.assertEqual(stack_passes(tuple(range(1, 30)) + (0,)), 29)
        self.assertEqual(bubble_passes(tuple(range(1, 30)) + (0,)), 29)
        self.assertEqual(bubble_passes((29,) + tuple(range(29))), 1)

    def test_long(self):
        self.assertEqual(stack_moves(last_order(30)), "I" * 30 + "O" * 30)
        self.assertEqual(stack_moves(plain_order(30)), "IO" * 30)
        for order in LONG:
            moves = stack_moves(order)
            self.assertEqual(moves is None, stack_bar(order) is not None)
            self.assertTrue(moves is None or out_by(order, moves) == plain_order(30))
            self.assertTrue(stack_bar(order) is None or is_bar(order, stack_bar(order)))


class Ways(unittest.TestCase):
    def candidates(self, order, number):
        beyond = 1 if len(order) < 5 else 0
        return itertools.product(range(-beyond, number + beyond), repeat=len(order))

    def test_lines(self):
        for order in FEW:
            number, ways = fewest_of(order, True)
            self.assertEqual(lines_needed(order), number)
            self.assertIn(lines_way(order), ways)
            for way in self.candidates(order, number):
                self.assertIs(is_lines_way(order, way), way in ways)
            self.check_falling(order)

    def check_falling(self, order):
        places = falling_places(order)
        self.assertIs(type(places), tuple)
        self.assertTrue(rises(places) and rises([order[at] for at in places][::-1]))
        self.assertEqual(len(places), lines_needed(order))

    def test_lines_of_many(self):
        for order in LONG + all_orders(7)[::50]:
            self.check_falling(order)
            self.assertTrue(comes_out(order, lines_way(order), True))
            self.assertEqual(len(set(lines_way(order))), lines_needed(order))
            self.assertTrue(is_lines_way(order, lines_way(order)))
        self.assertEqual(lines_needed(last_order(30)), 30)
        self.assertTrue(is_lines_way(last_order(30), tuple(range(30))))
        self.assertTrue(is_lines_way(plain_order(30), (0,) * 30))
        self.assertFalse(is_lines_way(plain_order(30), (0,) * 29 + (1,)))

    def test_stacks(self):
        for order in FEW:
            number, ways = fewest_of(order, False)
            self.assertEqual(stacks_needed(order), number)
            for way in self.candidates(order, number):
                self.assertIs(is_stacks_way(order, way), way in ways)
            for few in range(1, 10):
                self.check_stacks_way(order, few, number)

    def check_stacks_way(self, order, few, number):
        way = stacks_way(order, few)
        self.assertEqual(way is None, few < number)
        if way is not None:
            self.assertIs(type(way), tuple)
            self.assertTrue(are_ints(way, 0, few - 1) and len(way) == len(order))
            self.assertTrue(comes_out(order, way, False))

    def test_stacks_of_more(self):
        for order in all_orders(6)[::48] + all_orders(7)[5::1000]:
            number, _ = fewest_of(order, False)
            self.assertEqual(stacks_needed(order), number)
            self.check_stacks_way(order, number, number)
            self.assertTrue(is_stacks_way(order, stacks_way(order, number)))
        for order in ((1, 2, 3, 4, 5, 6, 7, 8, 0), (2, 5, 8, 1, 4, 7, 0, 3, 6), (4, 5, 6, 7, 8, 0, 1, 2, 3), last_order(9), plain_order(9)):
            number = stacks_needed(order)
            for few in range(1, 10):
                self.check_stacks_way(order, few, number)
        self.assertEqual(stacks_needed((1, 2, 3, 4, 5, 6, 7, 8, 0)), 8)
        self.assertEqual(stacks_needed(last_order(9)), 1)

    def test_any_value(self):
        for order in ((0,), (1, 0), (2, 0, 1), (1, 2, 0), M, (2, 1, 0)):
            lines, stacks = fewest_of(order, True)[1], fewest_of(order, False)[1]
            for index, value in enumerate(ANY):
                right = are_ints(value, 0, 9)
                self.assertIs(is_lines_way(order, value), right and value in lines, f"{order}, value {index}")
                self.assertIs(is_stacks_way(order, value), right and value in stacks, f"{order}, value {index}")


class Counts(unittest.TestCase):
    def test_all(self):
        for many in range(1, 8):
            every = all_orders(many)
            self.assertEqual(count_stacked(many), len([order for order in every if stack_moves(order) is not None]))
            lines = [lines_needed(order) for order in every]
            passes = [bubble_passes(order) for order in every]
            for number in range(9):
                self.assertEqual(count_bubbled(many, number), len([each for each in passes if each <= number]))
                if number:
                    self.assertEqual(count_lined(many, number), len([each for each in lines if each <= number]))

    def test_many_things(self):
        for many in (8, 15, 30):
            self.assertEqual(count_stacked(many), math.comb(2 * many, many) // (many + 1))
            self.assertEqual(count_lined(many, 1), 1)
            self.assertEqual(count_lined(many, 2), count_stacked(many))
            self.assertEqual(count_lined(many, many - 1), math.factorial(many) - 1)
            self.assertEqual(count_lined(many, 30), math.factorial(many))
            self.assertEqual(count_bubbled(many, 0), 1)
            self.assertEqual(count_bubbled(many, 1), 2 ** (many - 1))
            self.assertEqual(count_bubbled(many, many - 1), math.factorial(many))
            self.assertEqual(count_bubbled(many, 30), math.factorial(many))
        self.assertEqual([count_lined(1, 30), count_bubbled(1, 0), count_stacked(1)], [1, 1, 1])


if __name__ == "__main__":
    unittest.main()
