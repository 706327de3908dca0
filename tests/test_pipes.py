"""Pipes and their ladders, against plain rules."""

import functools
import itertools
import math
import unittest

from tests.values import ANY, all_orders, all_rows, is_among, led_to, pairs_over
from wiredorders.codes import code
from wiredorders.ladders import climbed, climbed_down, ladder_way, ladders, ladders_down
from wiredorders.orders import last_order, opposite, plain_order
from wiredorders.pipes import (
    all_pipes, are_pipes, count_pipes, high_pipes, low_pipes, pipe_tiles, pipes_crossed, pipes_order, pipes_row,
)

FEW = [order for many in (1, 2, 3, 4) for order in all_orders(many)]
SOME = [(3, 0, 4, 1, 2), (0, 4, 3, 2, 1), (0, 2, 1, 4, 3), (1, 0, 4, 3, 2), (4, 3, 2, 1, 0), (0, 1, 2, 3, 4), (1, 4, 0, 2, 3)]
SHIFTED = tuple(range(10)) + tuple(range(29, 9, -1))
M = (3, 0, 4, 1, 2)


def way_in(lot, row):
    """Return the tiles of the pipe that comes in at a row, and where it goes out at the top."""
    r, c, from_left = row, 0, True
    tiles = []
    while r >= 0:
        tiles.append((r, c))
        if from_left == ((r, c) in lot):
            c, from_left = c + 1, True
        else:
            r, from_left = r - 1, False
    return tuple(tiles), c


def row_told(lot):
    return tuple(r + c for r, c in sorted(lot, key=lambda tile: (tile[0], -tile[1])))


@functools.lru_cache(None)
def every_pipes(many):
    """Return the dict of all pipes of so many things, each with its order: lots whose pipes nowhere cross twice."""
    tiles = [(r, c) for r in range(many) for c in range(many) if r + c <= many - 2]
    found = {}
    for size in range(len(tiles) + 1):
        for lot in itertools.combinations(tiles, size):
            ways = [way_in(lot, row) for row in range(many)]
            crossed = [tuple(row for row in range(many) if tile in ways[row][0]) for tile in lot]
            if len(set(crossed)) == len(crossed):
                found[lot] = tuple(end for _, end in ways)
    return found


def pipes_by_order(many):
    told = {}
    for lot, order in every_pipes(many).items():
        told.setdefault(order, []).append(lot)
    return told


def is_ladder(many, lot, ladder):
    (r, c), (q, d) = ladder
    if (r, c) not in lot or not 0 <= q < r or d != c + 1 or r + d >= many or {(r, d), (q, c), (q, d)} & lot:
        return False
    return all((p, c) in lot and (p, d) in lot for p in range(q + 1, r))


def ladders_of(many, lot):
    """Return the sorted list of the ladders of pipes, looked for among all pairs of tiles of neighbouring columns."""
    pairs = [((r, c), (q, c + 1)) for (r, c), q in itertools.product(lot, range(many))]
    return sorted(pair for pair in pairs if is_ladder(many, set(lot), pair))


def led_by(lot, ladder):
    return tuple(sorted(set(lot) - {ladder[0]} | {ladder[1]}))


class Pipes(unittest.TestCase):
    def test_all_lots(self):
        for many in (1, 2, 3, 4):
            told = every_pipes(many)
            tiles = [(r, c) for r in range(many) for c in range(many) if r + c <= many - 2]
            for size in range(len(tiles) + 1):
                for lot in itertools.combinations(tiles, size):
                    self.assertIs(are_pipes(many, lot), lot in told)
                    self.assertFalse(size > 1 and are_pipes(many, lot[::-1]))
        self.assertEqual(sum(map(len, pipes_by_order(5).values())), len([1 for lot in every_pipes(5) if are_pipes(5, lot)]))

    def test_any_value(self):
        for many in (1, 2, 3, 4, 5):
            for index, value in enumerate(ANY):
                self.assertIs(are_pipes(many, value), is_among(value, 2, every_pipes(many)), f"{many}, value {index}")
        self.assertFalse(are_pipes(30, ((0, 29),)))
        self.assertFalse(are_pipes(30, ((29, 0),)))
        self.assertTrue(are_pipes(30, ((28, 0),)))
        self.assertTrue(are_pipes(30, ((0, 28), (14, 14))[1:]))
        self.assertFalse(are_pipes(4, [(0, 0)]))

    def test_rows_orders_and_ways(self):
        for many in (1, 2, 3, 4, 5):
            for lot, order in every_pipes(many).items():
                row = row_told(lot)
                self.assertEqual(pipes_row(many, lot), row)
                self.assertEqual(led_to(many, row), order)
                self.assertEqual(len(pairs_over(order)), len(lot))
                self.assertEqual(pipes_order(many, lot), order)
                ways = pipe_tiles(many, lot)
                self.assertEqual(ways, tuple(way_in(lot, r)[0] for r in range(many)))
                if many < 5:
                    self.check_crossed(many, lot, ways)

    def check_crossed(self, many, lot, ways):
        for one, other in itertools.permutations(range(many), 2):
            both = [tile for tile in lot if tile in ways[one] and tile in ways[other]]
            self.assertLessEqual(len(both), 1)
            self.assertEqual(pipes_crossed(many, lot, one, other), both[0] if both else None)

    def test_all_pipes(self):
        for many in (1, 2, 3, 4, 5):
            told = pipes_by_order(many)
            for order in all_orders(many):
                self.assertEqual(all_pipes(order), sorted(told[order]))
                self.assertEqual(count_pipes(order), len(told[order]))
                self.assertIn(low_pipes(order), told[order])
                self.assertIn(high_pipes(order), told[order])

    def test_low_and_high(self):
        for order in FEW + SOME + [SHIFTED, last_order(30), plain_order(30)]:
            many = len(order)
            tiles = list(itertools.product(range(many), repeat=2))
            low, high = code(order), code(opposite(order))
            self.assertEqual(low_pipes(order), tuple((r, c) for r, c in tiles if c < low[r]))
            self.assertEqual(high_pipes(order), tuple((r, c) for r, c in tiles if r < high[c]))
            self.assertEqual(pipes_order(many, low_pipes(order)), order)
            self.assertEqual(pipes_order(many, high_pipes(order)), order)

    def test_six_things(self):
        for order in all_orders(6)[::35]:
            found = all_pipes(order)
            self.assertEqual(found, sorted(set(found)))
            self.assertEqual(len(found), self.by_rows(order))
            self.assertTrue(all(way_in(lot, row)[1] == order[row] for lot in found for row in range(6)))
            self.assertEqual(count_pipes(order), len(found))
        self.assertEqual(max(map(count_pipes, all_orders(6))), 84)

    def by_rows(self, order):
        """Return the number of pipes by the products of the least rows' exchanges, each greater by 1."""
        total = sum(math.prod(exchange + 1 for exchange in row) for row in all_rows(order))
        number, rest = divmod(total, math.factorial(len(pairs_over(order))))
        self.assertEqual(rest, 0)
        return number

    def test_counts_by_rows(self):
        for order in FEW + SOME + [(0, 5, 4, 3, 2, 1, 6), (2, 1, 6, 0, 3, 4, 5), (0, 6, 1, 5, 2, 4, 3)]:
            self.assertEqual(count_pipes(order), self.by_rows(order))

    def test_counts_of_nine(self):
        # Of the first thing and all others the other way round there are Catalan's numbers.
        self.assertEqual([count_pipes((0,) + tuple(range(many - 1, 0, -1))) for many in range(2, 10)],
                         [1, 2, 5, 14, 42, 132, 429, 1430])
        self.assertEqual(count_pipes(last_order(9)), 1)
        self.assertEqual(count_pipes((0, 1, 2, 3, 4, 5, 6, 8, 7)), 8)
        self.assertEqual(count_pipes((0, 2, 1, 4, 3, 6, 5, 8, 7)), 2 * 4 * 6 * 8)


class Ladders(unittest.TestCase):
    def test_all(self):
        for many in (1, 2, 3, 4, 5):
            for order, lots in pipes_by_order(many).items():
                down = {lot: [] for lot in lots}
                for lot in lots:
                    self.assertEqual(ladders(many, lot), ladders_of(many, lot))
                    for ladder in ladders_of(many, lot):
                        behind = led_by(lot, ladder)
                        self.assertEqual(climbed(many, lot, ladder), behind)
                        self.assertEqual(climbed_down(many, behind, ladder), lot)
                        down[behind].append(ladder)
                for lot in lots:
                    self.assertEqual(ladders_down(many, lot), sorted(down[lot]))
                    self.assertEqual(down[lot] == [], lot == low_pipes(order))
                    self.check_way(many, order, lot)
                self.assertEqual(ladders(many, high_pipes(order)), [])

    def check_way(self, many, order, lot):
        way = ladder_way(many, lot)
        self.assertIs(type(way), tuple)
        held = low_pipes(order)
        for ladder in way:
            self.assertTrue(is_ladder(many, set(held), ladder))
            held = led_by(held, ladder)
        self.assertEqual(held, lot)

    def test_thirty_things(self):
        for order in (SHIFTED, last_order(30), plain_order(30)):
            self.check_way(30, order, high_pipes(order))
        self.assertEqual(ladders(30, low_pipes(SHIFTED)), ladders_of(30, low_pipes(SHIFTED)))
        long = ((0, 0), (1, 0), (1, 1), (2, 0), (2, 1), (3, 0))
        for lot in (long, long[1:]):
            self.assertEqual(ladders(6, lot), ladders_of(6, lot))
        self.assertEqual(ladders(6, long[1:]), [((1, 1), (0, 2)), ((3, 0), (0, 1))])


if __name__ == "__main__":
    unittest.main()
