"""The words for counts, over all orders of few things."""

import itertools
import math
import unittest

from tests.values import all_orders, pairs_over
from wiredorders.countwords import both_spread, signed_spread, spread, word_number
from wiredorders.orders import last_order, plain_order
from wiredorders.rings import sign

WORDS = ("size", "falls", "weight", "rings", "tops", "stills", "overs")


def cycles(order):
    """Return how many rings there are: each is what a thing leads to, ever again."""
    found = set()
    for thing in order:
        ring = {thing}
        while order[thing] not in ring:
            thing = order[thing]
            ring.add(thing)
        found.add(frozenset(ring))
    return len(found)


def told(word, order):
    drops = [at + 1 for at in range(len(order) - 1) if order[at] > order[at + 1]]
    return {
        "size": len(pairs_over(order)), "falls": len(drops), "weight": sum(drops), "rings": cycles(order),
        "tops": len([at for at, thing in enumerate(order) if all(other < thing for other in order[:at])]),
        "stills": sum(thing == at for at, thing in enumerate(order)),
        "overs": sum(thing > at for at, thing in enumerate(order)),
    }[word]


def times(one, other):
    product = [0] * (len(one) + len(other) - 1)
    for (at, number), (power, factor) in itertools.product(enumerate(one), enumerate(other)):
        product[at + power] += number * factor
    return tuple(product)


class Words(unittest.TestCase):
    def test_numbers(self):
        for order in [order for many in range(1, 7) for order in all_orders(many)] + [last_order(30), plain_order(30)]:
            for word in WORDS:
                self.assertEqual(word_number(word, order), told(word, order))
        self.assertEqual([word_number(word, last_order(30)) for word in WORDS], [435, 29, 435, 15, 1, 0, 15])
        self.assertEqual([word_number(word, plain_order(30)) for word in WORDS], [0, 0, 0, 30, 30, 30, 0])
        self.assertEqual([word_number(word, (0,)) for word in WORDS], [0, 0, 0, 1, 1, 1, 0])

    def test_spreads(self):
        for many in range(1, 8):
            for word in WORDS:
                numbers = [(word_number(word, order), sign(order)) for order in all_orders(many)]
                length = max(number for number, _ in numbers) + 1
                plain, signed = [0] * length, [0] * length
                for number, each in numbers:
                    plain[number] += 1
                    signed[number] += each
                while signed[-1] == 0:
                    signed.pop()
                self.assertEqual(spread(word, many), tuple(plain), word)
                self.assertEqual(signed_spread(word, many), tuple(signed), word)

    def test_both(self):
        for many in (1, 2, 3, 4, 5, 6):
            for one, other in itertools.product(WORDS, repeat=2) if many < 6 else (("size", "rings"), ("stills", "overs")):
                pairs = [(told(one, order), told(other, order)) for order in all_orders(many)]
                high, wide = (max(each) + 1 for each in zip(*pairs))
                table = tuple(tuple(pairs.count((at, by)) for by in range(wide)) for at in range(high))
                self.assertEqual(both_spread(one, other, many), table)

    def test_alike(self):
        for many in (1, 2, 6, 29, 30):
            for one, other in (("size", "weight"), ("falls", "overs"), ("rings", "tops")):
                self.assertEqual(spread(one, many), spread(other, many))
            for word in WORDS:
                self.assertEqual(sum(spread(word, many)), math.factorial(many))
        for many in range(1, 7):
            self.assertEqual(both_spread("size", "weight", many), both_spread("weight", "size", many))

    def test_signed_falls(self):
        for many in range(1, 31):
            half = spread("falls", (many + 1) // 2)
            for _ in range(many // 2):
                half = times(half, (1, -1))
            self.assertEqual(signed_spread("falls", many), half)

    def test_thirty_things(self):
        self.assertEqual(spread("size", 30)[:5], (1, 29, 434, 4465, 35495))
        self.assertEqual(len(spread("size", 30)), 436)
        self.assertEqual(spread("falls", 30)[1], 2 ** 30 - 31)
        self.assertEqual(spread("rings", 30)[:2], (0, math.factorial(29)))
        self.assertEqual(spread("stills", 30)[-3:], (435, 0, 1))
        self.assertEqual(spread("stills", 30)[0], (math.factorial(30) * 10 ** 40 // 27182818284590452353602874713526624977572) + 1)
        self.assertEqual(signed_spread("overs", 30)[:3], (1, -29, 406))
        self.assertEqual(signed_spread("stills", 2), (-1, 0, 1))
        for word in WORDS:
            self.assertEqual(sum(signed_spread(word, 30)), 0)
            self.assertNotEqual(signed_spread(word, 30)[-1], 0)


if __name__ == "__main__":
    unittest.main()
