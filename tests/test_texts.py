"""Orders, rows, shares and scripts as texts, sign for sign."""

import itertools
import random
import unittest
from fractions import Fraction

from tests.test_spans import drawn_shares
from tests.test_states import all_steps
from tests.values import ANY, BIG, all_orders, right_order, right_row, right_script, right_shares
from wiredorders import errors
from wiredorders.lifetexts import (
    order_text, read_order, read_row, read_script, read_shares, row_text, script_text, shares_text,
)
from wiredorders.orders import last_order, plain_order


def share_written(share):
    return str(Fraction(*share))


def step_written(step):
    return " ".join([step[0]] + [share_written(item) if type(item) is tuple else str(item) for item in step[1:]])


def texts_near(text):
    """Return texts that differ from a text by one sign, and a few others."""
    signs = "019 /-+.\nx"
    found = {text[:at] + text[at + 1:] for at in range(len(text))}
    found |= {text[:at] + sign + text[at:] for at in range(len(text) + 1) for sign in signs}
    found |= {text[:at] + sign + text[at + 1:] for at in range(len(text)) for sign in signs}
    return sorted(found)


def read_or_none(function, *args):
    try:
        return function(*args)
    except errors.InvalidText:
        return None


class Orders(unittest.TestCase):
    def test_there_and_back(self):
        for order in [order for many in range(1, 6) for order in all_orders(many)] + [last_order(30), plain_order(30)]:
            text = " ".join(map(str, order))
            self.assertEqual(order_text(order), text)
            self.assertEqual(read_order(text), order)

    def test_texts_near(self):
        right = {" ".join(map(str, order)): order for many in range(1, 5) for order in all_orders(many)}
        for text in [near for text in ("0", "1 0", "2 0 1", "1 3 0 2") for near in texts_near(text)]:
            self.assertEqual(read_or_none(read_order, text), right.get(text), repr(text))
        right = order_text(last_order(12))
        for text in texts_near(right):
            self.assertEqual(read_or_none(read_order, text), last_order(12) if text == right else None, repr(text))

    def test_any_value(self):
        self.check(read_order, (), order_text, right_order)

    def check(self, read, args, write, right):
        """Any value is read just if writing what was read gives it again."""
        for index, value in enumerate(ANY):
            found = read_or_none(read, *args, value)
            if found is not None:
                self.assertTrue(right(found), f"value {index}")
                self.assertEqual(write(*args, found), value)
            else:
                self.assertFalse(isinstance(value, str) and self.would_do(value, right), f"value {index}")

    def would_do(self, text, right):
        """Tell whether a text of numbers is right, written as it should be."""
        parts = text.split(" ") if text else []
        if not all(part.isdigit() and str(int(part)) == part for part in parts):
            return False
        return right(tuple(map(int, parts)))


class Rows(Orders):
    def test_there_and_back(self):
        for many in (1, 2, 3, 5):
            for length in range(4):
                for row in itertools.product(range(many - 1), repeat=length):
                    text = " ".join(map(str, row))
                    self.assertEqual(row_text(many, row), text)
                    self.assertEqual(read_row(many, text), row)
        long = (28, 9) * 225
        self.assertEqual(read_row(30, row_text(30, long)), long)
        for text in (row_text(30, long) + " 0", row_text(30, long) + " ", "29"):
            with self.assertRaises(errors.InvalidText):
                read_row(30, text)

    def test_texts_near(self):
        for text in [near for text in ("", "0", "1 0", "0 1 1") for near in texts_near(text)] + ["", "2 10", "10"]:
            parts = text.split(" ") if text else []
            right = all(part in ("0", "1", "2", "3") for part in parts)
            self.assertEqual(read_or_none(read_row, 5, text), tuple(map(int, parts)) if right else None, repr(text))

    def test_any_value(self):
        for many in (1, 2, 3, 30):
            self.check(read_row, (many,), row_text, lambda value: right_row(many, value))


class Shares(unittest.TestCase):
    def test_there_and_back(self):
        chance = random.Random(28)
        for length in (0, 1, 2, 5, 450):
            row = tuple(chance.randrange(29) for _ in range(length))
            for most in (2, 9, 1000, BIG):
                shares = drawn_shares(chance, row, most)
                text = " ".join(map(share_written, shares))
                self.assertEqual(shares_text(30, row, shares), text)
                self.assertEqual(read_shares(30, row, text), shares)

    def test_long_numbers(self):
        row = (0, 0)
        for digits in (59, 60, 61, 119, 120, 121, 600, 4400, 9001):
            for number in (10 ** digits, 10 ** digits - 1, 10 ** digits + 10 ** (digits // 2)):
                shares = ((number, 1), (1, number))
                text = shares_text(2, row, shares)
                self.assertEqual(read_shares(2, row, text), shares)
                if digits < 4000:
                    self.assertEqual(text, f"{number} 1/{number}")
        self.assertEqual(shares_text(2, row, ((10 ** 5000, 1), (1, 1))), "1" + "0" * 5000 + " 1")

    def test_texts_near(self):
        for text in [near for text in ("1", "1/2", "3 2/3", "10/9") for near in texts_near(text)]:
            for row in ((0,), (0, 0)):
                self.assertEqual(read_or_none(read_shares, 2, row, text), self.told(row, text), repr(text))

    def told(self, row, text):
        found = []
        for part in text.split(" "):
            numbers = part.split("/")
            if len(numbers) > 2 or not all(number.isdigit() and str(int(number)) == number for number in numbers):
                return None
            share = tuple(map(int, numbers)) if len(numbers) == 2 else (int(part), 1)
            if 0 in share or share_written(share) != part:
                return None
            found.append(share)
        return tuple(found) if len(found) == len(row) else None

    def test_any_value(self):
        for row in ((), (0,), (1, 0), (0, 1, 0)):
            for index, value in enumerate(ANY):
                found = read_or_none(read_shares, 3, row, value)
                right = type(value) is str and (value == "" if row == () else self.told(row, value) is not None)
                self.assertIs(found is not None, right, f"{row}, value {index}")
                self.assertTrue(found is None or right_shares(row, found) and shares_text(3, row, found) == value)


class Scripts(unittest.TestCase):
    def test_there_and_back(self):
        chance = random.Random(29)
        steps = all_steps(29) + [("add", 0, (1000, 999)), ("scale", 29, (1, 1000)), ("far", 449), ("put", 449), ("near", 100)]
        for step in steps:
            self.assertEqual(script_text((step,)), step_written(step))
            self.assertEqual(read_script(step_written(step)), (step,))
        for length in (0, 2, 5, 12):
            script = tuple(chance.choice(steps) for _ in range(length))
            text = "\n".join(map(step_written, script))
            self.assertEqual(script_text(script), text)
            self.assertEqual(read_script(text), script)

    def test_texts_near(self):
        right = {step_written(step): step for step in all_steps(29)}
        for text in [near for text in ("far 0", "drop", "add 1 2/3", "about", "watch 29") for near in texts_near(text)]:
            found = read_or_none(read_script, text)
            self.assertTrue(found is None or right_script(found) and script_text(found) == text, repr(text))
            told = [right.get(line) for line in text.split("\n")]
            if None not in told:
                self.assertEqual(found, tuple(told))

    def test_alone(self):
        for text in (
            " drop", "drop ", "drop\n", "\ndrop", "drop\n\ndrop", "drop\r\ndrop", "far  0", "far 00", "far 450", "far -0", "far +0", "far",
            "far 0 0", "add 0", "add 0 2/4", "add 0 1/1", "add 0 0", "add 0 1/0", "add 0 1001", "add 30 1", "scale 0 1/1001", "put 450",
            "watch 30", "none", "none 0", "Drop", "drop drop", "drop 0", "far 0.0", "far 1e1", "add 0 1/2/3", "add 0 /2", "add 0 2/", " ", "\n",
            "drop\n" * 12 + "drop", None, 0, (), [], ("drop",), True,
        ):
            with self.assertRaises(errors.InvalidText, msg=repr(text)):
                read_script(text)
        self.assertEqual(read_script(""), ())
        self.assertEqual(len(read_script("\n".join(["drop"] * 12))), 12)

    def test_any_value(self):
        for index, value in enumerate(ANY):
            found = read_or_none(read_script, value)
            self.assertTrue(found is None or right_script(found) and script_text(found) == value, f"value {index}")


if __name__ == "__main__":
    unittest.main()
