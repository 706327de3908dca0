"""Sums of pipes, climbs, products of sums and vexing orders, against plain rules."""

import itertools
import math
import random
import unittest

from tests.test_pipes import M, SHIFTED, SOME, pipes_by_order, row_told
from tests.values import ANY, all_orders, all_rows, pairs_over, right_least_row, right_sum
from wiredorders import errors
from wiredorders.climbs import climb_of, climbs, count_climbs, is_climb, pipes_by
from wiredorders.codes import code
from wiredorders.orders import last_order, plain_order, swapped
from wiredorders.overtakings import falls
from wiredorders.pipeproducts import fall_step, in_orders, orders_up
from wiredorders.pipes import all_pipes, count_pipes, high_pipes, low_pipes
from wiredorders.pipesums import is_pipe_sum, order_sum, stepped_down, sum_at, sums_added, sums_multiplied
from wiredorders.vexing import has_one, is_vexing, vexing_count, vexing_flags, vexing_shape

FEW = [order for many in (1, 2, 3, 4) for order in all_orders(many)]


def told(numbers):
    return tuple(sorted((powers, number) for powers, number in numbers.items() if number))


def added(*sums):
    """Return the sum of pairs (sum, how often)."""
    numbers = {}
    for each, often in sums:
        for powers, number in each:
            numbers[powers] = numbers.get(powers, 0) + number * often
    return told(numbers)


def multiplied(one, other):
    return added(*[(((tuple(map(sum, zip(powers, behind))), number),), often) for powers, number in one for behind, often in other])


def variable(many, *things):
    """Return the sum of some variables."""
    return tuple(sorted((tuple(int(at == thing) for at in range(many)), 1) for thing in things))


def exchanged(powers, at):
    return powers[:at] + (powers[at + 1], powers[at]) + powers[at + 2:]


def drawn_sum(chance, many, pairs, most_power, most_number):
    numbers = {}
    while len(numbers) < pairs:
        powers = tuple(chance.randint(0, most_power) for _ in range(many))
        numbers[powers] = chance.choice((-1, 1)) * chance.randint(1, most_number)
    return told(numbers)


class Sums(unittest.TestCase):
    def test_any_value(self):
        for many in (1, 2, 3, 4, 5, 30):
            for index, value in enumerate(ANY):
                self.assertIs(is_pipe_sum(many, value), right_sum(many, value), f"{many}, value {index}")

    def test_edges(self):
        pairs = tuple(((at // 60, at % 60), at + 1) for at in range(401))
        self.assertTrue(is_pipe_sum(2, pairs[:400]))
        self.assertFalse(is_pipe_sum(2, pairs))
        for pair, right in (
            (((60, 0), 1), True), (((61, 0), 1), False), (((0, -1), 1), False), (((0, 0), 10 ** 30), True),
            (((0, 0), 10 ** 30 + 1), False), (((0, 0), -10 ** 30), True), (((0, 0), -10 ** 30 - 1), False),
            (((0, 0), 0), False), (((0, 0), True), False), (((0, True), 1), False), (((0,), 1), False),
            (((0, 0, 0), 1), False), ([(0, 0), 1], False), (([0, 0], 1), False), (((0, 0), 1, 1), False),
            (((0, 0),), False), (((0, 0), "1"), False), (((0, 0), None), False), ((0, 1), False),
        ):
            self.assertIs(is_pipe_sum(2, (pair,)), right, pair)
        self.assertTrue(is_pipe_sum(2, ()))
        self.assertFalse(is_pipe_sum(2, []))
        self.assertFalse(is_pipe_sum(2, (((0, 1), 1), ((0, 1), 2))))
        self.assertFalse(is_pipe_sum(2, (((0, 1), 1), ((0, 1), 1))))
        self.assertFalse(is_pipe_sum(2, (((0, 1), 1), ((0, 0), 1))))
        self.assertTrue(is_pipe_sum(2, (((0, 1), 1), ((1, 0), -1))))

    def test_by_lots(self):
        for many in (1, 2, 3, 4, 5):
            lots = pipes_by_order(many)
            for order in all_orders(many):
                numbers = {}
                for lot in lots[order]:
                    powers = tuple(len([tile for tile in lot if tile[0] == row]) for row in range(many))
                    numbers[powers] = numbers.get(powers, 0) + 1
                self.assertEqual(order_sum(order), told(numbers))

    def test_statements(self):
        chosen = all_orders(6)[::25] + all_orders(7)[3::400] + [last_order(7), plain_order(7)]
        for order in FEW + all_orders(5) + chosen:
            many = len(order)
            own = order_sum(order)
            self.assertEqual(sum(number for _, number in own), count_pipes(order))
            self.assertEqual(max(powers[::-1] for powers, _ in own)[::-1], code(order))
            self.assertEqual(sum_at(many, own, (1,) * many), count_pipes(order))
            for at in range(many - 1):
                behind = order_sum(swapped(order, at)) if at in falls(order) else ()
                self.assertEqual(stepped_down(many, own, at), behind)

    def test_known_from_one_another(self):
        for many in (1, 2, 3, 4, 5):
            self.assertEqual(len({order_sum(order) for order in all_orders(many)}), math.factorial(many))

    def test_added_and_multiplied(self):
        chance = random.Random(1)
        for many, pairs, power, number in ((1, 3, 5, 9), (2, 6, 3, 3), (3, 20, 2, 2), (5, 30, 60, 10 ** 30), (30, 5, 60, 5)):
            one, other = (drawn_sum(chance, many, pairs, power, number) for _ in range(2))
            self.assertEqual(sums_added(many, one, other), added((one, 1), (other, 1)))
            self.assertEqual(sums_multiplied(many, one, other), multiplied(one, other))
            self.assertEqual(sums_added(many, one, told({powers: -often for powers, often in one})), ())
            self.assertEqual(sums_added(many, one, ()), one)
            self.assertEqual(sums_multiplied(many, one, ()), ())
            self.assertEqual(sums_multiplied(many, (((0,) * many, 1),), one), one)
        plus, minus = (((0, 1), 1), ((1, 0), 1)), (((0, 1), -1), ((1, 0), 1))
        self.assertEqual(sums_multiplied(2, plus, minus), (((0, 2), -1), ((2, 0), 1)))

    def test_told_sums_have_no_bounds(self):
        high = (((60, 60), 10 ** 30),)
        self.assertEqual(sums_multiplied(2, high, high), (((120, 120), 10 ** 60),))
        self.assertEqual(sums_added(2, high, high), (((60, 60), 2 * 10 ** 30),))
        many = tuple(((0, at // 50, at % 50), 1) for at in range(400))
        others = tuple(((1, at // 50, at % 50), 1) for at in range(400))
        self.assertEqual(sums_added(3, many, others), many + others)
        self.assertEqual(stepped_down(2, (((60, 0), -10 ** 30),), 0), tuple(((at, 59 - at), -10 ** 30) for at in range(60)))
        self.assertEqual(stepped_down(2, (((0, 3), 2),), 0), (((0, 2), -2), ((1, 1), -2), ((2, 0), -2)))
        self.assertEqual(stepped_down(2, (((7, 7), 5),), 0), ())

    def test_stepped_down(self):
        chance = random.Random(2)
        for many, pairs, power in ((2, 4, 3), (3, 12, 4), (5, 20, 9), (30, 4, 60)):
            for _ in range(5):
                one = drawn_sum(chance, many, pairs, power, 4)
                at = chance.randrange(many - 1)
                down = stepped_down(many, one, at)
                self.assertEqual(down, told(dict(down)))
                ahead = added((variable(many, at), 1), (variable(many, at + 1), -1))
                turned = told({exchanged(powers, at): number for powers, number in one})
                self.assertEqual(multiplied(down, ahead), added((one, 1), (turned, -1)))

    def test_sum_at(self):
        chance = random.Random(3)
        for many, pairs, power in ((1, 2, 60), (2, 9, 5), (4, 30, 60), (30, 10, 60)):
            one = drawn_sum(chance, many, pairs, power, 10 ** 30)
            for low, high in ((-1, 1), (-9, 9), (-1000, 1000), (1000, 1000), (-1000, -1000), (0, 0)):
                values = tuple(chance.randint(low, high) for _ in range(many))
                worth = sum(number * math.prod(map(pow, values, powers)) for powers, number in one)
                self.assertEqual(sum_at(many, one, values), worth)
        self.assertEqual(sum_at(3, (), (1, 2, 3)), 0)
        self.assertEqual(sum_at(2, (((0, 0), 7),), (0, 0)), 7)


def every_climb(row):
    """Return the sorted list of all climbs of a row, by its plain rule."""
    found = []
    for value in itertools.product(*[range(exchange + 1) for exchange in row]):
        pairs = zip(value, value[1:], row, row[1:])
        if all(one <= other and (exchange >= behind or one < other) for one, other, exchange, behind in pairs):
            found.append(value)
    return found


class Climbs(unittest.TestCase):
    def test_all(self):
        for order in FEW + SOME[:4]:
            many = len(order)
            reached = []
            for row in all_rows(order):
                every = every_climb(row)
                self.assertEqual(climbs(many, row), every)
                self.assertEqual(count_climbs(many, row), len(every))
                for climb in every:
                    pipes = tuple(sorted((number, exchange - number) for number, exchange in zip(climb, row)))
                    self.assertEqual(pipes_by(many, row, climb), pipes)
                    self.assertEqual((row_told(pipes), climb_of(many, pipes)), (row, climb))
                    reached.append(pipes)
            # A row and a climb of it are one to one with pipes.
            self.assertEqual(sorted(reached), all_pipes(order))

    def test_any_value(self):
        for many, row in ((1, ()), (3, (1, 0)), (3, (0, 1, 0)), (4, (0, 2)), (4, (2, 1, 2)), (5, (3, 2, 1, 0, 3)), (5, (0, 2, 3))):
            every = every_climb(row)
            values = ANY + list(itertools.product(range(-1, 4), repeat=min(len(row), 3)))
            for index, value in enumerate(values):
                right = type(value) is tuple and all(type(item) is int for item in value) and value in every
                self.assertIs(is_climb(many, row, value), right, f"{row}, value {index}")

    def test_long_rows(self):
        down = tuple(range(28, -1, -1))
        for length in range(30):
            self.assertEqual(count_climbs(30, down[:length]), math.comb(29, length))
            self.assertEqual(count_climbs(30, down[::-1][29 - length:]), math.comb(29, length))
        self.assertEqual(count_climbs(30, ()), 1)
        self.assertEqual(len(climbs(30, down[:3])), math.comb(29, 3))
        self.assertEqual(climbs(30, down[-10:]), [(0,) * 10])
        self.assertEqual(climbs(30, tuple(range(10))), [tuple(range(10))])
        self.assertEqual(climbs(30, (28, 27, 26, 25, 24, 23, 22, 21, 20, 0)), [(0,) * 10])
        self.assertEqual(climbs(30, (0, 2)), [(0, 1), (0, 2)])

    def test_of_pipes(self):
        for order in (last_order(30), SHIFTED, M):
            for pipes in (low_pipes(order), high_pipes(order)):
                climb = climb_of(len(order), pipes)
                self.assertEqual(climb, tuple(r for r, _ in pipes))
                row = row_told(pipes)
                self.assertTrue(right_least_row(len(order), row))
                self.assertTrue(is_climb(len(order), row, climb))
                self.assertEqual(pipes_by(len(order), row, climb), pipes)
        self.assertEqual(climb_of(1, ()), ())

    def test_products_of_exchanges(self):
        for order in FEW + all_orders(5)[::7]:
            total = sum(math.prod(exchange + 1 for exchange in row) for row in all_rows(order))
            self.assertEqual(total, count_pipes(order) * math.factorial(len(pairs_over(order))))


class Products(unittest.TestCase):
    def test_orders_up(self):
        for order in FEW + SOME[:3]:
            many = len(order)
            longer = tuple((powers + (0,), number) for powers, number in order_sum(order))
            for place in range(many):
                up = orders_up(order, place)
                self.assertEqual(up, sorted(set(up)))
                product = multiplied(longer, variable(many + 1, *range(place + 1)))
                self.assertEqual(added(*[(order_sum(each), 1) for each in up]), product)

    def test_orders_up_of_many(self):
        plain = plain_order(29)
        self.assertEqual(orders_up(plain, 28), [plain[:28] + (29, 28)])
        self.assertEqual(orders_up(last_order(29), 0), [(29,) + tuple(range(27, -1, -1)) + (28,)])
        with self.assertRaises(errors.TooMany) as caught:
            orders_up(plain_order(30), 0)
        self.assertEqual(caught.exception.limit, 30)
        with self.assertRaises(errors.InvalidPlace):
            orders_up(plain_order(30), 30)

    def test_fall_step(self):
        for order in FEW + SOME + all_orders(6)[5::60]:
            many = len(order)
            if order == plain_order(many):
                with self.assertRaises(errors.NoFall):
                    fall_step(order)
                continue
            place, other, behind = fall_step(order)
            self.assertEqual(place, falls(order)[-1])
            late = max(at for at in range(place, many) if order[at] < order[place])
            things = list(order)
            things[place], things[late] = things[late], things[place]
            self.assertEqual(other, tuple(things))
            self.assertEqual(behind, sorted(set(behind)))
            first = multiplied(variable(many, place), order_sum(other))
            self.assertEqual(added((first, 1), *[(order_sum(each), 1) for each in behind]), order_sum(order))

    def test_fall_step_of_many(self):
        self.assertEqual(fall_step(last_order(30)), (28, last_order(30)[:28] + (0, 1), []))
        self.assertEqual(fall_step((0, 2, 1)), (1, (0, 1, 2), [(1, 0, 2)]))

    def test_in_orders(self):
        for order in FEW + SOME + all_orders(6)[::90] + [(0, 6, 1, 5, 2, 4, 3), (6, 5, 4, 3, 2, 1, 0)]:
            self.assertEqual(in_orders(len(order), order_sum(order)), [(order, 1)])
        chance = random.Random(4)
        for many, pairs in ((1, 1), (2, 2), (3, 5), (4, 20), (5, 60), (6, 90), (7, 50)):
            powers = list(itertools.product(*[range(many - thing) for thing in range(many)]))
            chosen = sorted(chance.sample(powers, min(pairs, len(powers))))
            narrow = tuple((each, chance.choice((-1, 1)) * chance.randint(1, 10 ** 30)) for each in chosen)
            found = in_orders(many, narrow)
            self.assertEqual(found, sorted(dict(found).items()))
            self.assertNotIn(0, dict(found).values())
            self.assertEqual(added(*[(order_sum(order), number) for order, number in found]), narrow)
        self.assertEqual(in_orders(7, ()), [])
        self.assertEqual(in_orders(1, (((0,), -5),)), [((0,), -5)])

    def test_narrow(self):
        self.assertEqual(in_orders(3, (((2, 1, 0), 3),)), [((2, 1, 0), 3)])
        for powers in ((3, 0, 0), (0, 2, 0), (0, 0, 1)):
            with self.assertRaises(errors.InvalidSum):
                in_orders(3, ((powers, 1),))


def has_four(order):
    return any(b < a < d < c for a, b, c, d in itertools.combinations(order, 4))


def plain_determinant(rows):
    if not rows:
        return 1
    below = [[row[:at] + row[at + 1:] for row in rows[1:]] for at in range(len(rows))]
    return sum((-1) ** at * rows[0][at] * plain_determinant(below[at]) for at in range(len(rows)) if rows[0][at])


def ways(count, kinds):
    return len(list(itertools.combinations_with_replacement(range(kinds), count))) if count >= 0 else 0


class Vexing(unittest.TestCase):
    def test_all(self):
        for order in FEW + all_orders(5) + all_orders(6)[::5]:
            vexing = not has_four(order)
            self.assertIs(is_vexing(order), vexing)
            self.assertIs(has_one(order), count_pipes(order) == 1)
            self.assertIs(has_one(order), not any(a < c < b for a, b, c in itertools.combinations(order, 3)))
            if vexing:
                self.check_vexing(order)
            else:
                for function in (vexing_shape, vexing_flags, vexing_count):
                    with self.assertRaises(errors.NotVexing):
                        function(order)

    def check_vexing(self, order):
        counts = [len([other for other in order[at:] if other < thing]) for at, thing in enumerate(order)]
        shape = tuple(sorted([count for count in counts if count], reverse=True))
        flags = [
            min(at for at in range(place, len(order)) if order[at] < thing)
            for place, thing in enumerate(order) if counts[place]
        ]
        self.assertEqual(vexing_shape(order), shape)
        self.assertEqual(vexing_flags(order), tuple(sorted(flags)))
        self.assertEqual(vexing_count(order), count_pipes(order))
        rows = [[ways(shape[i] - i + j, sorted(flags)[i]) for j in range(len(shape))] for i in range(len(shape))]
        self.assertEqual(vexing_count(order), plain_determinant(rows))

    def test_many_things(self):
        for order in (last_order(30), plain_order(30)):
            self.assertTrue(is_vexing(order) and has_one(order))
            self.assertEqual(vexing_count(order), 1)
        self.assertEqual(vexing_shape(last_order(30)), tuple(range(29, 0, -1)))
        self.assertEqual(vexing_flags(last_order(30)), tuple(range(1, 30)))
        self.assertEqual((vexing_shape(plain_order(30)), vexing_flags(plain_order(30))), ((), ()))
        # Of the first thing and all others the other way round there are Catalan's numbers.
        around = (0,) + tuple(range(29, 0, -1))
        self.assertEqual(vexing_count(around), math.comb(58, 29) // 30)
        self.assertEqual(vexing_count(tuple(range(28)) + (29, 28)), 29)
        self.assertFalse(is_vexing((1, 0) + tuple(range(2, 28)) + (29, 28)))
        self.assertFalse(has_one(SHIFTED))
        self.assertTrue(is_vexing(SHIFTED))
        self.assertEqual(vexing_count((0, 8, 7, 6, 5, 4, 3, 2, 1)), count_pipes((0, 8, 7, 6, 5, 4, 3, 2, 1)))


if __name__ == "__main__":
    unittest.main()
