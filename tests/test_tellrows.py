"""Rows told by facts, against all least rows of few things."""

import functools
import itertools
import random
import unittest

from tests.values import all_orders, all_rows, led_to, pairs_over
from wiredorders import errors
from wiredorders.tellrows import fewest_items, rows_told, surely_ahead

FEW = [order for many in (1, 2, 3, 4) for order in all_orders(many)]
SOME = [(3, 0, 4, 1, 2), (4, 3, 2, 1, 0), (2, 1, 4, 3, 0), (0, 4, 3, 2, 1)]


@functools.lru_cache(None)
def met(many, row):
    pairs = []
    for at, exchange in enumerate(row):
        ahead = led_to(many, row[:at])
        pairs.append(tuple(sorted(ahead[exchange:exchange + 2])))
    return pairs


def goes(many, row, fact):
    word, one, other, truth = fact
    pairs = met(many, row)
    told = {
        "does": lambda: row[one] == other, "meets": lambda: pairs[one] == other,
        "ahead": lambda: pairs.index(one) < pairs.index(other),
    }[word]()
    return told is truth


def all_facts(order):
    """Return the list of all single facts of an order."""
    pairs, many = pairs_over(order), len(order)
    facts = [("does", at, exchange) for at in range(len(pairs)) for exchange in range(many - 1)]
    facts += [("meets", at, pair) for at in range(len(pairs)) for pair in pairs]
    facts += [("ahead", one, other) for one, other in itertools.permutations(pairs, 2)]
    return [fact + (truth,) for fact in facts for truth in (True, False)]


def rows_by(order, facts):
    return [row for row in all_rows(order) if all(goes(len(order), row, fact) for fact in facts)]


class Rows(unittest.TestCase):
    def test_single_facts(self):
        for order in FEW + SOME[:1]:
            self.assertEqual(rows_told(order, ()), list(all_rows(order)))
            for fact in all_facts(order):
                self.assertEqual(rows_told(order, (fact,)), rows_by(order, (fact,)))

    def test_more_facts(self):
        chance = random.Random(26)
        for order in FEW[3:] + SOME:
            facts = all_facts(order)
            for count in (2, 3, 5, 8) if facts else ():
                chosen = tuple(chance.choice(facts) for _ in range(count))
                self.assertEqual(rows_told(order, chosen), rows_by(order, chosen))
                row = chance.choice(all_rows(order))
                right = tuple(fact for fact in chance.sample(facts, len(facts)) if goes(len(order), row, fact))[:count]
                self.assertEqual(rows_told(order, right), rows_by(order, right))
                self.assertIn(row, rows_told(order, right))

    def test_ahead(self):
        chance = random.Random(27)
        for order in FEW + SOME:
            facts, many = all_facts(order), len(order)
            for one, other in itertools.islice(itertools.permutations(pairs_over(order), 2), 40):
                for count in (0, 1, 2):
                    chosen = tuple(chance.choice(facts) for _ in range(count))
                    told = {met(many, row).index(one) < met(many, row).index(other) for row in rows_by(order, chosen)}
                    right = told.pop() if len(told) == 1 else None
                    self.assertIs(surely_ahead(order, chosen, one, other), right)
        self.assertIsNone(surely_ahead((2, 1, 0), (("does", 0, 0, True), ("does", 0, 0, False)), (0, 1), (1, 2)))

    def test_fewest_items(self):
        for order in FEW + SOME[:1] + SOME[2:]:
            for row in all_rows(order):
                others = [other for other in all_rows(order) if other != row]
                every = (each for size in range(len(row) + 1) for each in itertools.combinations(range(len(row)), size))
                first = next(each for each in every if all(any(row[at] != other[at] for at in each) for other in others))
                self.assertEqual(fewest_items(order, row), first)

    def test_fewest_items_of_the_last_order(self):
        every = all_rows((4, 3, 2, 1, 0))
        for row in every[::97]:
            found = fewest_items((4, 3, 2, 1, 0), row)
            self.assertEqual([other for other in every if all(row[at] == other[at] for at in found)], [row])
            for less in itertools.combinations(range(10), len(found) - 1):
                self.assertGreater(len([other for other in every if all(row[at] == other[at] for at in less)]), 1)
            for same in itertools.takewhile(lambda each: each != found, itertools.combinations(range(10), len(found))):
                self.assertGreater(len([other for other in every if all(row[at] == other[at] for at in same)]), 1)

    def test_wrong_facts(self):
        order = (2, 0, 1)
        right = (
            ("does", 0, 1, True), ("does", 1, 0, False), ("meets", 1, (0, 2), True), ("ahead", (1, 2), (0, 2), False),
        )
        self.assertEqual(rows_told(order, right[:1]), [(1, 0)])
        wrong = (
            ("does", 2, 0, True), ("does", -1, 0, True), ("does", 0, 2, True), ("does", 0, -1, True), ("does", 0, 0, 1),
            ("does", 0, 0, 0), ("does", 0, 0, None), ("does", True, 0, True), ("does", 0, False, True), ("does", 0, 0),
            ("does", 0, 0, True, True), ["does", 0, 0, True], ("meets", 0, (0, 1), True), ("meets", 0, (2, 0), True),
            ("meets", 2, (0, 2), True), ("meets", 0, [0, 2], True), ("meets", 0, 0, True), ("meets", 0, (False, 2), True),
            ("ahead", (0, 2), (0, 2), True), ("ahead", (0, 1), (0, 2), True), ("ahead", (0, 2), (0, 1), True),
            ("ahead", (0, 2), 1, True), ("none", 0, 0, True), (None, 0, 0, True), ("Does", 0, 0, True), "does", None, (),
        )
        for fact in wrong:
            for facts in ((fact,), (right[0], fact)):
                with self.assertRaises(errors.InvalidFacts, msg=fact):
                    rows_told(order, facts)
                with self.assertRaises(errors.InvalidFacts, msg=fact):
                    surely_ahead(order, facts, (0, 2), (1, 2))
        rows_told(order, right * 2)
        for facts in (right * 2 + right[:1], list(right), None, right[0]):
            with self.assertRaises(errors.InvalidFacts):
                rows_told(order, facts)
        with self.assertRaises(errors.InvalidFacts):
            rows_told((0, 1), (("does", 0, 0, True),))

    def test_wrong_pairs_and_rows(self):
        for one, other in (((0, 2), (0, 2)), ((0, 1), (0, 2)), ((0, 2), (0, 1)), ((2, 0), (1, 2)), (None, (1, 2)), ((1, 2), 0), ((0, 2), [1, 2])):
            with self.assertRaises(errors.InvalidPairs):
                surely_ahead((2, 0, 1), (), one, other)
        for row in ((0, 1), (1, 0, 0, 0), (1,), (), [1, 0], None, (1, False)):
            with self.assertRaises(errors.InvalidRow):
                fewest_items((2, 0, 1), row)


if __name__ == "__main__":
    unittest.main()
