"""Rows with shares and their spans, against tables of fractions."""

import itertools
import random
import unittest
from fractions import Fraction

from tests.values import ANY, BIG, ONES, all_orders, all_rows, led_to, right_shares
from wiredorders import errors
from wiredorders.rowmoves import row_moves
from wiredorders.spans import are_shares, heights_of, met_pairs, moved_far, moved_near, span, span_at

ROWS = [(3, (0, 1, 0)), (3, (1, 0, 1)), (1, ()), (2, ()), (2, (0, 0, 0)), (4, (0, 2, 1, 2, 0, 1, 1)), (5, (3, 2, 1, 0, 1, 2, 3))]


def drawn_shares(chance, row, most=9):
    shares = [Fraction(chance.randint(1, most), chance.randint(1, most)) for _ in row]
    return tuple((share.numerator, share.denominator) for share in shares)


def drawn_rows(chance, many, lengths):
    return [tuple(chance.randrange(many - 1) for _ in range(length)) for length in lengths]


def plain_table(many):
    return [[Fraction(at == by) for by in range(many)] for at in range(many)]


def table_of(many, row, shares):
    """Return the span as lists of fractions, by its definition."""
    table = plain_table(many)
    for exchange, share in zip(row, shares):
        for line in table:
            line[exchange + 1] += Fraction(*share) * line[exchange]
    return table


def product(one, other):
    return [[sum(one[at][k] * other[k][by] for k in range(len(one))) for by in range(len(one))] for at in range(len(one))]


def read(table):
    return [[Fraction(*item) for item in line] for line in table]


def written(table):
    return tuple(tuple((item.numerator, item.denominator) for item in line) for line in table)


def stand_in_order(row, wanted):
    """Tell whether some exchanges stand in a row in this order, perhaps with others between."""
    left = iter(row)
    return all(exchange in left for exchange in wanted)


class Shares(unittest.TestCase):
    def test_any_value(self):
        for many, row in ROWS + [(2, (0,)), (3, (0, 1))]:
            for index, value in enumerate(ANY):
                self.assertIs(are_shares(many, row, value), right_shares(row, value), f"{row}, value {index}")

    def test_edges(self):
        for share, right in (
            ((1, 1), True), ((2, 4), False), ((0, 1), False), ((1, 0), False), ((-1, 1), False), ((-1, -1), False),
            ((True, 1), False), ((1, True), False), ([1, 1], False), ((1,), False), ((1, 1, 1), False), ("11", False),
            ((BIG, 1), True), ((BIG, BIG), False), ((BIG, BIG - 1), True), (1, False), (None, False),
        ):
            self.assertIs(are_shares(2, (0,), (share,)), right, share)
        self.assertTrue(are_shares(2, (0,) * 450, ((1, 1),) * 450))
        self.assertFalse(are_shares(2, (0,) * 450, ((1, 1),) * 449))
        self.assertFalse(are_shares(2, (0,), [(1, 1)]))


class Spans(unittest.TestCase):
    def test_spans(self):
        chance = random.Random(13)
        rows = ROWS + [(many, row) for many in (2, 3, 4, 6) for row in drawn_rows(chance, many, (1, 2, 5, 9, 14))]
        for many, row in rows + [(30, tuple(range(29)))]:
            for _ in range(3):
                shares = drawn_shares(chance, row)
                table = written(table_of(many, row, shares))
                self.assertEqual(span(many, row, shares), table)
                for first, last in itertools.product(range(many), repeat=2) if many < 30 else ((0, 29), (5, 7), (7, 5), (4, 4)):
                    self.assertEqual(span_at(many, row, shares, first, last), table[first][last])

    def test_great_shares(self):
        shares = ((BIG, BIG - 1), (BIG - 2, BIG), (BIG, 1), (1, BIG), (BIG - 1, BIG))
        row = (0, 1, 0, 2, 1)
        self.assertEqual(span(4, row, shares), written(table_of(4, row, shares)))

    def test_two_rows(self):
        chance = random.Random(14)
        for many in (2, 3, 5):
            for one, other in zip(drawn_rows(chance, many, (0, 3, 6, 8)), drawn_rows(chance, many, (4, 0, 5, 9))):
                shares, others = drawn_shares(chance, one), drawn_shares(chance, other)
                both = product(read(span(many, one, shares)), read(span(many, other, others)))
                self.assertEqual(span(many, one + other, shares + others), written(both))

    def test_turned_about(self):
        chance = random.Random(15)
        for many in (1, 2, 3, 5):
            for row in drawn_rows(chance, many, (0, 1, 4, 9)) if many > 1 else [()]:
                shares = drawn_shares(chance, row)
                about = read(span(many, row[::-1], shares[::-1]))
                signed = [[item * (-1) ** (at + by) for by, item in enumerate(line)] for at, line in enumerate(about)]
                self.assertEqual(product(read(span(many, row, shares)), signed), plain_table(many))

    def test_items_above_0(self):
        chance = random.Random(16)
        for many in (1, 2, 4, 6):
            for row in drawn_rows(chance, many, (0, 2, 5, 8, 12)) if many > 1 else [()]:
                table = read(span(many, row, drawn_shares(chance, row)))
                for at, by in itertools.product(range(many), repeat=2):
                    self.assertGreaterEqual(table[at][by], 0)
                    if at < by:
                        self.assertEqual(table[at][by] > 0, stand_in_order(row, range(at, by)))
                    else:
                        self.assertEqual(table[at][by], int(at == by))


class Moves(unittest.TestCase):
    def made(self, many, row, shares, move):
        return (moved_far if move[0] == "far" else moved_near)(many, row, shares, move[1])

    def test_all_moves(self):
        chance = random.Random(17)
        rows = [(len(order), row) for many in (3, 4) for order in all_orders(many) for row in all_rows(order)]
        rows += [(5, row) for row in drawn_rows(chance, 5, (6, 9, 12, 20))] + ROWS
        for many, row in rows:
            shares = drawn_shares(chance, row)
            moves = [(word, at) for word in ("far", "near") for at in range(-1, len(row) + 1)]
            right = row_moves(many, row)
            for move in moves:
                if move in right:
                    self.check_move(many, row, shares, move)
                else:
                    beyond = not 0 <= move[1] < len(row) - (1 if move[0] == "far" else 2)
                    with self.assertRaises(errors.InvalidIndex if beyond else errors.NoMove):
                        self.made(many, row, shares, move)

    def check_move(self, many, row, shares, move):
        word, at = move
        behind, carried = self.made(many, row, shares, move)
        if word == "far":
            self.assertEqual(behind, row[:at] + (row[at + 1], row[at]) + row[at + 2:])
            self.assertEqual(carried, shares[:at] + (shares[at + 1], shares[at]) + shares[at + 2:])
        else:
            i, j, a, b, c = *row[at:at + 2], *(Fraction(*share) for share in shares[at:at + 3])
            self.assertEqual(behind, row[:at] + (j, i, j) + row[at + 3:])
            three = (b * c / (a + c), a + c, a * b / (a + c))
            self.assertEqual(carried, shares[:at] + written([three])[0] + shares[at + 3:])
        self.assertTrue(right_shares(behind, carried))
        self.assertEqual(span(many, behind, carried), span(many, row, shares))
        self.assertEqual(self.made(many, behind, carried, move), (row, shares))

    def test_ends(self):
        with self.assertRaises(errors.InvalidIndex):
            moved_far(4, (0, 2), ONES[1:], 1)
        with self.assertRaises(errors.InvalidIndex):
            moved_near(3, (0, 1, 0), ONES, 1)
        with self.assertRaises(errors.InvalidIndex):
            moved_far(2, (), (), 0)
        with self.assertRaises(errors.NoMove):
            moved_far(3, (0, 1), ONES[1:], 0)
        with self.assertRaises(errors.NoMove):
            moved_near(3, (0, 0, 0), ONES, 0)
        with self.assertRaises(errors.NoMove):
            moved_near(4, (0, 2, 0), ONES, 0)


class Wires(unittest.TestCase):
    def test_pairs_and_heights(self):
        chance = random.Random(18)
        rows = ROWS + [(many, row) for many in (2, 4, 30) for row in drawn_rows(chance, many, (0, 1, 6, 40))]
        for many, row in rows + [(2, (0,) * 450)]:
            states = [led_to(many, row[:at]) for at in range(len(row) + 1)]
            pairs = tuple(tuple(sorted(states[at][exchange:exchange + 2])) for at, exchange in enumerate(row))
            self.assertEqual(met_pairs(many, row), pairs)
            for thing in (0, many // 2, many - 1):
                self.assertEqual(heights_of(many, row, thing), tuple(state.index(thing) for state in states))


if __name__ == "__main__":
    unittest.main()
