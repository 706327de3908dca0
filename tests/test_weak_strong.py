"""The weak and the strong order of all orders, against their definitions."""

import functools
import itertools
import unittest

from tests.values import all_orders, all_rows, led_to, pairs_over, rises
from wiredorders.orders import last_order, opposite, plain_order, turned_about
from wiredorders.overtakings import falls, some_row
from wiredorders.strongly import is_strongly_below, part_of_row, strong_drops, strong_paper, strong_steps
from wiredorders.strongsums import is_smooth, sizes_below, step_polynomial
from wiredorders.strongways import count_strong_ways, least_above, strong_signed, strong_way, strongly_between
from wiredorders.weakly import is_weakly_below, weak_join, weak_meet, weak_paper, weak_steps
from wiredorders.weakways import count_weak_ways, count_weakly_below, weak_signed, weak_way, weakly_between

SETS = [all_orders(many) for many in (1, 2, 3, 4)]
FIVES = all_orders(5)
MIXED = tuple(thing * 7 % 30 for thing in range(30))
BIG = (plain_order(30), last_order(30), MIXED, MIXED[::-1], tuple(thing ^ 1 for thing in range(30)))


@functools.lru_cache(None)
def over(order):
    return frozenset(pairs_over(order))


def weakly(one, other):
    return over(one) <= over(other)


@functools.lru_cache(None)
def counts(order):
    many = len(order)
    return [[sum(thing < bound for thing in order[:places]) for bound in range(many + 1)] for places in range(many + 1)]


@functools.lru_cache(None)
def strongly(one, other):
    return all(a >= b for line, less in zip(counts(one), counts(other)) for a, b in zip(line, less))


def pairs_of(orders):
    return list(itertools.product(orders, repeat=2))


def signed(one, other, below, known):
    """Return the signed number, by its definition."""
    if one == other:
        return 1
    if not below(one, other):
        return 0
    if (one, other) not in known:
        known[one, other] = -sum(
            signed(one, between, below, known) for between in all_orders(len(one))
            if between != other and below(one, between) and below(between, other)
        )
    return known[one, other]


def exchanged(order, at, to):
    things = list(order)
    things[at], things[to] = things[to], things[at]
    return tuple(things)


def steps_of(order, distances):
    """Return the sorted list of the orders with one overtaking more, two things so far apart exchanged."""
    every = [exchanged(order, at, at + by) for by in distances for at in range(len(order) - by)]
    return sorted(other for other in every if len(over(other)) == len(over(order)) + 1)


class Weakly(unittest.TestCase):
    def test_below_and_papers(self):
        for orders in SETS + [FIVES[::7]]:
            for one, other in pairs_of(orders):
                lacking = sorted(over(one) - over(other))
                self.assertIs(is_weakly_below(one, other), not lacking)
                self.assertEqual(weak_paper(one, other), lacking[0] if lacking else None)

    def test_meets_and_joins(self):
        for orders in SETS:
            for one, other in pairs_of(orders):
                above = [each for each in orders if weakly(one, each) and weakly(other, each)]
                least = [each for each in above if all(weakly(each, higher) for higher in above)]
                self.assertEqual([weak_join(one, other)], least)
                under = [each for each in orders if weakly(each, one) and weakly(each, other)]
                most = [each for each in under if all(weakly(lower, each) for lower in under)]
                self.assertEqual([weak_meet(one, other)], most)

    def test_overtakings_of_joins(self):
        for one, other in pairs_of(FIVES[::11]) + pairs_of(BIG):
            held = set(over(one) | over(other))
            for b in range(len(one)):
                held |= {(a, c) for a in range(b) for c in range(b + 1, len(one)) if {(a, b), (b, c)} <= held}
            self.assertEqual(set(over(weak_join(one, other))), held)
            meet = weak_meet(one, other)
            self.assertTrue(weakly(meet, one) and weakly(meet, other))
            self.assertEqual(turned_about(meet), weak_join(turned_about(one), turned_about(other)))

    def test_steps(self):
        for order in FIVES + SETS[0] + SETS[1] + SETS[2] + list(BIG):
            self.assertEqual(weak_steps(order), steps_of(order, [1]))

    def test_turned(self):
        for one, other in pairs_of(SETS[3]):
            self.assertIs(is_weakly_below(one, other), is_weakly_below(turned_about(other), turned_about(one)))
            self.assertTrue(is_strongly_below(one, other) or not is_weakly_below(one, other))


class WeakWays(unittest.TestCase):
    def check_way(self, one, other):
        way = weak_way(one, other)
        if not weakly(one, other):
            self.assertIsNone(way)
            return
        self.assertIs(type(way), tuple)
        self.assertEqual(len(way), len(over(other)) - len(over(one)))
        self.assertEqual(led_to(len(one), way, one), other)

    def test_ways(self):
        for one, other in [pair for orders in SETS + [FIVES[::7]] for pair in pairs_of(orders)] + pairs_of(BIG):
            self.check_way(one, other)
        self.assertEqual(len(weak_way(BIG[0], BIG[1])), 435)

    def test_between_and_counts(self):
        for orders in SETS + [FIVES]:
            known = {}
            for one, other in pairs_of(orders)[:: 1 if len(orders) < 120 else 97]:
                told = [each for each in orders if weakly(one, each) and weakly(each, other)]
                self.assertEqual(weakly_between(one, other), told)
                self.assertEqual(count_weak_ways(one, other), self.count(one, other, known))

    def count(self, one, other, known):
        if one == other:
            return 1
        if (one, other) not in known:
            steps = [higher for higher in steps_of(one, [1]) if weakly(higher, other)]
            known[one, other] = sum(self.count(higher, other, known) for higher in steps)
        return known[one, other]

    def test_six_things(self):
        self.assertEqual(count_weak_ways(plain_order(6), last_order(6)), 292864)
        self.assertEqual(len(weakly_between(plain_order(6), last_order(6))), 720)
        self.assertEqual(weakly_between(last_order(6), plain_order(6)), [])

    def test_count_below(self):
        for orders in SETS + [FIVES]:
            for order in orders:
                self.assertEqual(count_weakly_below(order), sum(weakly(other, order) for other in orders))
        self.assertEqual(count_weakly_below(plain_order(12)), 1)
        self.assertEqual(count_weakly_below(tuple(thing ^ 1 for thing in range(12))), 64)
        self.assertEqual(count_weakly_below((11,) + tuple(range(11))), 12)
        self.assertEqual(count_weakly_below(last_order(11)), 39916800)

    def test_signed(self):
        for orders in SETS:
            known = {}
            for one, other in pairs_of(orders):
                self.assertEqual(weak_signed(one, other), signed(one, other, weakly, known))
        known = {}
        for one, other in pairs_of(FIVES)[::53] + [(FIVES[0], FIVES[-1])]:
            self.assertEqual(weak_signed(one, other), signed(one, other, weakly, known))

    def test_signed_of_thirty_things(self):
        self.assertEqual(weak_signed(BIG[0], BIG[1]), -1)
        self.assertEqual(weak_signed(BIG[0], BIG[4]), -1)
        self.assertEqual(weak_signed(BIG[0], (2, 1, 0) + tuple(range(3, 30))), 1)
        self.assertEqual(weak_signed(BIG[0], (2, 0, 1) + tuple(range(3, 30))), 0)
        self.assertEqual(weak_signed(BIG[2], BIG[2]), 1)
        self.assertEqual(weak_signed(BIG[1], BIG[0]), 0)


class Strongly(unittest.TestCase):
    def test_below_and_papers(self):
        for orders in SETS + [FIVES[::7]]:
            for one, other in pairs_of(orders):
                many = len(one)
                self.assertIs(is_strongly_below(one, other), strongly(one, other))
                papers = [
                    (places, bound) for places in range(many + 1) for bound in range(many + 1)
                    if counts(other)[places][bound] > counts(one)[places][bound]
                ]
                self.assertEqual(strong_paper(one, other), papers[0] if papers else None)
                first = all(
                    a <= b for places in range(many)
                    for a, b in zip(sorted(one[:places]), sorted(other[:places]))
                )
                self.assertIs(is_strongly_below(one, other), first)

    def test_turned(self):
        for one, other in pairs_of(SETS[3]):
            self.assertIs(is_strongly_below(one, other), is_strongly_below(turned_about(other), turned_about(one)))
            self.assertIs(is_strongly_below(one, other), is_strongly_below(opposite(one), opposite(other)))

    def test_steps_and_drops(self):
        for order in FIVES + SETS[0] + SETS[1] + SETS[2] + list(BIG[:3]):
            steps = steps_of(order, range(1, len(order)))
            self.assertEqual(strong_steps(order), steps)
            drops = [turned_about(other) for other in steps_of(turned_about(order), range(1, len(order)))]
            self.assertEqual(strong_drops(order), sorted(drops))
            for other in strong_drops(order):
                self.assertIn(order, strong_steps(other))

    def test_parts(self):
        for orders in SETS:
            for one, other in pairs_of(orders):
                for row in all_rows(other):
                    self.check_part(one, row, strongly(one, other))
        for one, other in pairs_of(BIG):
            self.check_part(one, some_row(other), strongly(one, other))

    def check_part(self, one, row, is_below):
        part = part_of_row(one, row)
        self.assertEqual(part is not None, is_below)
        if is_below:
            self.assertIs(type(part), tuple)
            self.assertTrue(rises(part))
            items = [row[at] for at in part]
            self.assertEqual(led_to(len(one), items), one)
            self.assertEqual(len(items), len(over(one)))


class StrongWays(unittest.TestCase):
    def check_way(self, one, other):
        way = strong_way(one, other)
        if not strongly(one, other):
            self.assertIsNone(way)
            return
        self.assertIs(type(way), tuple)
        self.assertEqual((way[0], way[-1]), (one, other))
        for lower, higher in zip(way, way[1:]):
            self.assertEqual(sum(a != b for a, b in zip(lower, higher)), 2)
            self.assertEqual(len(over(higher)), len(over(lower)) + 1)

    def test_ways(self):
        for one, other in [pair for orders in SETS + [FIVES[::2]] for pair in pairs_of(orders)] + pairs_of(BIG):
            self.check_way(one, other)
        self.assertEqual(len(strong_way(BIG[0], BIG[1])), 436)

    def test_between_above_and_counts(self):
        for orders in SETS + [FIVES]:
            known = {}
            for one, other in pairs_of(orders)[:: 1 if len(orders) < 120 else 397]:
                told = [each for each in orders if strongly(one, each) and strongly(each, other)]
                self.assertEqual(strongly_between(one, other), told)
                self.assertEqual(count_strong_ways(one, other), self.count(one, other, known))
                above = [each for each in orders if strongly(one, each) and strongly(other, each)]
                least = [each for each in above if not any(lower != each and strongly(lower, each) for lower in above)]
                self.assertEqual(least_above(one, other), least)

    def count(self, one, other, known):
        if one == other:
            return 1
        if (one, other) not in known:
            steps = [higher for higher in steps_of(one, range(1, len(one))) if strongly(higher, other)]
            known[one, other] = sum(self.count(higher, other, known) for higher in steps)
        return known[one, other]

    def test_six_things(self):
        self.assertEqual(len(strongly_between(plain_order(6), last_order(6))), 720)
        self.assertEqual(least_above(last_order(6), plain_order(6)), [last_order(6)])
        self.assertEqual(least_above((0, 1, 2, 3, 5, 4), (1, 0, 2, 3, 4, 5)), [(1, 0, 2, 3, 5, 4)])
        self.assertEqual(count_strong_ways(last_order(6), plain_order(6)), 0)
        self.assertEqual([count_strong_ways(plain_order(many), last_order(many)) for many in (1, 2, 3)], [1, 1, 4])

    def test_signed(self):
        for orders in SETS:
            known = {}
            for one, other in pairs_of(orders):
                self.assertEqual(strong_signed(one, other), signed(one, other, strongly, known))
        known = {}
        for other in FIVES[::9]:
            self.assertEqual(strong_signed(FIVES[0], other), signed(FIVES[0], other, strongly, known))
        self.assertEqual(strong_signed(BIG[0], BIG[1]), -1)
        self.assertEqual(strong_signed(BIG[1], BIG[0]), 0)
        self.assertEqual(strong_signed(BIG[0], BIG[2]), -1 if len(over(BIG[2])) % 2 else 1)


class StrongSums(unittest.TestCase):
    def test_smooth(self):
        for many in (1, 2, 3, 4, 5, 6):
            smooth = 0
            for order in all_orders(many):
                fours = itertools.combinations(order, 4)
                rough = any(self.pattern(four) in ((2, 3, 0, 1), (3, 1, 2, 0)) for four in fours)
                self.assertIs(is_smooth(order), not rough)
                smooth += not rough
            self.assertEqual(smooth, (1, 2, 6, 22, 88, 366)[many - 1])
        self.assertTrue(is_smooth(last_order(30)))
        self.assertTrue(is_smooth(plain_order(30)))
        self.assertFalse(is_smooth(MIXED))
        self.assertFalse(is_smooth((29,) + tuple(range(1, 29)) + (0,)))
        self.assertFalse(is_smooth(tuple(range(15, 30)) + tuple(range(15))))

    def pattern(self, four):
        return tuple(sorted(four).index(thing) for thing in four)

    def test_sizes(self):
        for orders in SETS + [FIVES]:
            for order in orders:
                sizes = [0] * (len(over(order)) + 1)
                for other in orders:
                    if strongly(other, order):
                        sizes[len(over(other))] += 1
                self.assertEqual(sizes_below(order), tuple(sizes))
                self.assertIs(is_smooth(order), sizes == sizes[::-1])
        self.assertEqual(sum(sizes_below(last_order(6))), 720)

    def test_polynomials(self):
        for orders in SETS:
            known = {pair: self.polynomials(*pair) for pair in pairs_of(orders)}
            for (one, other), polynomial in known.items():
                self.assertEqual(step_polynomial(one, other), polynomial)
                for fall in falls(other):
                    self.assertEqual(self.by_fall(one, other, fall, known), polynomial)
        self.assertEqual(step_polynomial(plain_order(6), (5, 1, 2, 3, 4, 0))[-1], 1)

    @functools.lru_cache(None)
    def polynomials(self, one, other):
        if one == other:
            return (1,)
        if not strongly(one, other):
            return ()
        fall = falls(other)[-1]
        behind, lower = exchanged(one, fall, fall + 1), exchanged(other, fall, fall + 1)
        known = {pair: self.polynomials(*pair) for pair in ((behind, lower), (one, lower))}
        return self.by_fall(one, other, fall, known)

    def by_fall(self, one, other, fall, known):
        behind, lower = exchanged(one, fall, fall + 1), exchanged(other, fall, fall + 1)
        if fall in falls(one):
            return known[behind, lower]
        both, only = known[behind, lower], known[one, lower]
        sums = [0] * 20
        for power, number in enumerate(both):
            sums[power + 1] += number
        for power, number in enumerate(only):
            sums[power + 1] += number
            sums[power] -= number
        while sums and sums[-1] == 0:
            sums.pop()
        return tuple(sums)

    def test_polynomials_of_five_and_six(self):
        for one, other in pairs_of(FIVES)[::211] + pairs_of(all_orders(6)[::90]):
            polynomial = step_polynomial(one, other)
            self.assertEqual(polynomial, self.polynomials(one, other))
            self.assertEqual(len(polynomial), len(over(other)) - len(over(one)) + 1 if strongly(one, other) else 0)
        self.assertEqual(step_polynomial(last_order(6), plain_order(6)), ())


if __name__ == "__main__":
    unittest.main()
