"""Rows with shares as values."""

import itertools
import random
import unittest

from tests.test_spans import ROWS, drawn_rows, drawn_shares
from tests.values import ANY, BIG, ONES, is_int, least, led_to, right_pairs, right_row, right_shares
from wiredorders import errors
from wiredorders.lifebenches import Bench
from wiredorders.lifetexts import row_text, shares_text
from wiredorders.lifevalues import Spanned
from wiredorders.spans import met_pairs, moved_far, moved_near, span

A = Spanned.ones(3, (0, 1, 0))


def some():
    """Return new values of some rows with shares."""
    chance = random.Random(30)
    rows = ROWS + [(many, row) for many in (2, 4, 6) for row in drawn_rows(chance, many, (1, 4, 9))]
    return [Spanned(many, row, drawn_shares(chance, row)) for many, row in rows]


def told(value):
    return (value.many, value.row, value.shares)


class Values(unittest.TestCase):
    def check_error(self, error, function, *args):
        with self.assertRaises(errors.OrderError) as caught:
            function(*args)
        self.assertIs(type(caught.exception), error)
        return caught.exception

    def test_made(self):
        for value in some():
            self.assertEqual(value.order, led_to(value.many, value.row))
            self.assertEqual(told(Spanned(*told(value))), told(value))
            ones = Spanned.ones(value.many, value.row)
            self.assertEqual(told(ones), (value.many, value.row, ((1, 1),) * len(value.row)))
            self.assertIs(type(ones), Spanned)
        for name in ("many", "row", "shares", "order"):
            with self.assertRaises(AttributeError):
                setattr(A, name, 0)

    def test_made_of_any_values(self):
        for index, value in enumerate(ANY):
            if not is_int(value, 1, 30):
                self.check_error(errors.InvalidMany, Spanned, value, None, None)
                self.check_error(errors.InvalidMany, Spanned.ones, value, None)
            if not right_row(3, value):
                self.check_error(errors.InvalidRow, Spanned, 3, value, None)
                self.check_error(errors.InvalidRow, Spanned.ones, 3, value)
            if not right_shares((0, 1), value):
                self.check_error(errors.InvalidShares, Spanned, 3, (0, 1), value)
        Spanned(30, (28,) * 450, ((BIG, 1),) * 450)

    def test_added(self):
        for one, other in itertools.product(some(), repeat=2):
            before, behind = told(one), told(other)
            if one.many == other.many:
                both = one + other
                self.assertEqual(told(both), (one.many, one.row + other.row, one.shares + other.shares))
            else:
                self.check_error(errors.Unlike, lambda: one + other)
                self.check_error(errors.Unlike, one.__iadd__, other)
                self.check_error(errors.Unlike, one.same, other)
            self.assertEqual((told(one), told(other)), (before, behind))

    def test_added_to_itself(self):
        for one in some():
            row, shares, held = one.row, one.shares, one
            one += one
            self.assertIs(one, held)
            self.assertEqual(told(held), (one.many, row + row, shares + shares))
            one += Spanned(one.many, (), ())
            self.assertIs(one, held)
            self.assertEqual(len(one), 2 * len(row))

    def test_objects_taken_stay_as_they_were(self):
        one = Spanned(3, (0, 1), ONES[1:])
        row, about, both, item = one.row, ~one, one + one, one[1]
        one += A
        self.assertEqual((row, about.row, both.row, item), ((0, 1), (1, 0), (0, 1, 0, 1), (1, (1, 1))))
        self.assertEqual(told(one), (3, (0, 1, 0, 1, 0), ((1, 1),) * 5))
        self.assertEqual(told(A), (3, (0, 1, 0), ONES))

    def test_too_many(self):
        long, short = Spanned.ones(2, (0,) * 449), Spanned.ones(2, (0,))
        self.assertEqual(len(long + short), 450)
        for one, other in ((long, short + short), (long + short, short), (long, long)):
            self.assertEqual(self.check_error(errors.TooMany, lambda: one + other).limit, 450)
            before = told(one)
            self.assertEqual(self.check_error(errors.TooMany, one.__iadd__, other).limit, 450)
            self.assertEqual(told(one), before)
        self.check_error(errors.Unlike, lambda: long + Spanned.ones(3, (0,) * 449))
        long += short
        self.assertEqual(len(long), 450)

    def test_unlike_any_value(self):
        for index, value in enumerate(ANY):
            if not (isinstance(value, Spanned) and value.many == 3):
                for function in (lambda: A + value, lambda: A.__iadd__(value), lambda: A.same(value)):
                    self.check_error(errors.Unlike, function)
            self.assertEqual(A == value, isinstance(value, Spanned) and told(value) == told(A), f"value {index}")
        self.assertEqual(told(A), (3, (0, 1, 0), ONES))

    def test_moved(self):
        for one in some():
            for word, at in itertools.product(("far", "near"), range(-1, len(one) + 1)):
                function = moved_far if word == "far" else moved_near
                try:
                    row, shares = function(*told(one), at)
                except errors.OrderError as caught:
                    self.check_error(type(caught), lambda: one ^ (word, at))
                else:
                    behind = one ^ (word, at)
                    self.assertEqual(told(behind), (one.many, row, shares))
                    self.assertTrue(one.same(behind))
                    self.assertEqual(behind ^ (word, at), one)

    def test_moved_by_any_value(self):
        for index, value in enumerate(ANY):
            pair = type(value) is tuple and len(value) == 2 and type(value[0]) is str and type(value[1]) is int
            if not pair or value[0] not in ("far", "near"):
                self.check_error(errors.InvalidStep, lambda: A ^ value)
            elif value != ("near", 0):
                beyond = not 0 <= value[1] < (2 if value[0] == "far" else 1)
                self.check_error(errors.InvalidIndex if beyond else errors.NoMove, lambda: A ^ value)
        self.check_error(errors.InvalidIndex, lambda: A ^ ("near", BIG))
        self.check_error(errors.InvalidIndex, lambda: A ^ ("far", -1))
        for value in (("near", True), ["near", 0], ("near", 0, 0), ("add", 0), ("near",), "near"):
            self.check_error(errors.InvalidStep, lambda: A ^ value)

    def test_turned_about(self):
        for one in some():
            about = ~one
            self.assertEqual(told(about), (one.many, one.row[::-1], one.shares[::-1]))
            self.assertEqual(~about, one)

    def test_called(self):
        for one in some():
            table = span(*told(one))
            for first, last in itertools.product(range(one.many), repeat=2):
                self.assertEqual(one(first, last), table[first][last])
        for index, value in enumerate(ANY):
            if not is_int(value, 0, 2):
                self.check_error(errors.InvalidPlace, A, value, 0)
                self.check_error(errors.InvalidPlace, A, 0, value)

    def test_items(self):
        for one in some():
            for at in range(len(one)):
                self.assertEqual(one[at], (one.row[at], one.shares[at]))
        for value in ANY + [3, -1, slice(0, 1), True]:
            if not is_int(value, 0, 2):
                self.check_error(errors.InvalidIndex, lambda: A[value])

    def test_contains(self):
        for one in some():
            pairs = met_pairs(one.many, one.row)
            for index, value in enumerate(ANY + list(itertools.product(range(one.many), repeat=2))):
                right = right_pairs(one.many, (value,)) and value in pairs
                self.assertIs(value in one, right, f"{one}, value {index}")

    def test_length_truth_and_text(self):
        for one in some():
            self.assertEqual(len(one), len(one.row))
            self.assertIs(bool(one), least(one.many, one.row))
            text = f"{one.many}; {row_text(one.many, one.row)}; {shares_text(*told(one))}"
            self.assertEqual(str(one), text)
        self.assertTrue(Spanned(2, (), ()))
        self.assertEqual(str(Spanned(30, (28, 0), ((3, 2), (4, 1)))), "30; 28 0; 3/2 4")
        self.assertEqual(str(Spanned(2, (0,), ((10 ** 5000, 1),))), "2; 0; 1" + "0" * 5000)

    def test_same(self):
        for one, other in itertools.product(some(), repeat=2):
            if one.many == other.many:
                self.assertIs(one.same(other), span(*told(one)) == span(*told(other)))
        self.assertTrue(Spanned(2, (0, 0), ((1, 2), (1, 3))).same(Spanned(2, (0,), ((5, 6),))))
        self.assertFalse(A.same(Spanned(3, (), ())))

    def test_equal(self):
        for one, other in itertools.product(some(), repeat=2):
            self.assertIs(one == other, told(one) == told(other))
            self.assertIs(one != other, told(one) != told(other))
        self.assertFalse(A == told(A))
        self.assertFalse(A == Bench((3, (0, 1, 0), ONES, 0, 0)))
        self.assertEqual(A, Spanned(3, (0, 1, 0), ONES))

    def test_not_iterated_over(self):
        for one in some():
            for function in (iter, list, tuple, sorted, set, lambda value: [item for item in value], lambda value: max(value)):
                with self.assertRaises(TypeError):
                    function(one)


if __name__ == "__main__":
    unittest.main()
