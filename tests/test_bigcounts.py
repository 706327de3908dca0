"""Counts of orders, also of very many things, against plain counting."""

import itertools
import math
import unittest

from tests.values import all_orders
from wiredorders.bigcounts import count_falls_at, count_ringed, count_sized, falls_rest, unstill_rest
from wiredorders.countwords import spread
from wiredorders.overtakings import falls

GREAT = 10 ** 30


def item(numbers, at):
    return numbers[at] if 0 <= at < len(numbers) else 0


def zigzags(most):
    """Return the numbers of orders that rise and fall in turn, line by line of Seidel's triangle."""
    line, told = [1], [1]
    for _ in range(most):
        line = list(itertools.accumulate([0] + line[::-1]))
        told.append(line[-1])
    return told


def chosen(things, count):
    """Return in how many ways so many of very many things can be chosen."""
    ways = 1
    for at in range(count):
        ways = ways * (things - at) // (at + 1)
    return ways


class FallsAt(unittest.TestCase):
    def test_few(self):
        for many in range(1, 8):
            told = {}
            for order in all_orders(many):
                places = tuple(falls(order))
                told[places] = told.get(places, 0) + 1
            for size in range(many):
                for places in itertools.combinations(range(many - 1), size):
                    self.assertEqual(count_falls_at(many, places), told[places])

    def test_thirty(self):
        self.assertEqual(count_falls_at(30, ()), 1)
        self.assertEqual(count_falls_at(30, tuple(range(29))), 1)
        for place in range(29):
            self.assertEqual(count_falls_at(30, (place,)), math.comb(30, place + 1) - 1)
        numbers = zigzags(30)
        self.assertEqual(numbers[:7], [1, 1, 1, 2, 5, 16, 61])
        for many in (8, 15, 29, 30):
            self.assertEqual(count_falls_at(many, tuple(range(1, many - 1, 2))), numbers[many])
            self.assertEqual(count_falls_at(many, tuple(range(0, many - 1, 2))), numbers[many])


class Great(unittest.TestCase):
    def test_sized(self):
        for things in range(1, 31):
            numbers = spread("size", things)
            for size in range(26):
                self.assertEqual(count_sized(things, size), item(numbers, size))
        for things in (31, 57, 10 ** 6, GREAT - 1):
            for size in range(1, 26):
                # The next thing makes so many overtakings, or one fewer and so on, of those of the others.
                more = sum(count_sized(things, each) for each in range(size + 1))
                self.assertEqual(count_sized(things + 1, size), more)
        self.assertEqual(count_sized(GREAT, 0), 1)
        self.assertEqual(count_sized(GREAT, 2), (GREAT - 2) * (GREAT + 1) // 2)
        self.assertEqual(count_sized(1, 25), 0)

    def test_ringed(self):
        for things in range(1, 31):
            numbers = spread("rings", things)
            for less in range(13):
                self.assertEqual(count_ringed(things, less), item(numbers, things - less))
        for things in (31, 10 ** 9, GREAT - 1):
            for less in range(1, 13):
                more = count_ringed(things, less) + things * count_ringed(things, less - 1)
                self.assertEqual(count_ringed(things + 1, less), more)
        self.assertEqual(count_ringed(GREAT, 0), 1)
        self.assertEqual(count_ringed(GREAT, 2), 2 * chosen(GREAT, 3) + 3 * chosen(GREAT, 4))
        self.assertEqual(count_ringed(12, 12), 0)
        self.assertEqual(count_ringed(13, 12), math.factorial(12))

    def test_falls_rest(self):
        for things in range(1, 31):
            numbers = spread("falls", things)
            for fall in range(26):
                for modulus in (1, 2, 97, 1000, 10 ** 12):
                    self.assertEqual(falls_rest(things, fall, modulus), item(numbers, fall) % modulus)
        for things in (31, 12345, GREAT - 7, GREAT):
            for fall in (0, 1, 2, 24, 25):
                for modulus in (1, 7, 64, 10 ** 9 + 7, 10 ** 12):
                    terms = [
                        (-1) ** off * chosen(things + 1, off) * pow(fall + 1 - off, things, modulus) for off in range(fall + 1)
                    ]
                    self.assertEqual(falls_rest(things, fall, modulus), sum(terms) % modulus)
        for fall in range(1, 26):
            # A further thing comes into a fall or to the end, or makes a fall more.
            more = (fall + 1) * falls_rest(GREAT - 1, fall, 10 ** 12) + (GREAT - fall) * falls_rest(GREAT - 1, fall - 1, 10 ** 12)
            self.assertEqual(falls_rest(GREAT, fall, 10 ** 12), more % 10 ** 12)
        self.assertEqual(falls_rest(GREAT, 0, 10 ** 12), 1)
        self.assertEqual(falls_rest(GREAT, 0, 1), 0)

    def test_unstill_rest(self):
        for things in range(1, 31):
            for modulus in (1, 2, 3, 10, 997, 2000):
                self.assertEqual(unstill_rest(things, modulus), spread("stills", things)[0] % modulus)
        for modulus in (1, 2, 3, 4, 5, 6, 9, 49, 64, 100, 1999):
            count = 1
            for things in range(1, 4500):
                count = (things * count + (-1) ** things) % modulus
                if things % 7 == 0 or things < 200:
                    self.assertEqual(unstill_rest(things, modulus), count)
        for things in (GREAT, GREAT - 1, GREAT - 2, 10 ** 29 + 12345):
            for modulus in (1, 2, 15, 1000, 1999, 2000):
                more = things * unstill_rest(things - 1, modulus) + (-1) ** (things % 2)
                self.assertEqual(unstill_rest(things, modulus), more % modulus)
                for part in range(1, modulus + 1):
                    if modulus % part == 0:
                        self.assertEqual(unstill_rest(things, modulus) % part, unstill_rest(things, part))


if __name__ == "__main__":
    unittest.main()
