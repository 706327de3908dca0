"""States, steps and scripts, against plain rules."""

import itertools
import random
import unittest
from fractions import Fraction

from tests.test_spans import drawn_shares
from tests.values import (
    ANY, BIG, ONES, STATE, all_orders, all_rows, led_to, pairs_over, right_least_row, right_script, right_state, right_step,
)
from wiredorders import errors
from wiredorders.lifestates import all_stepped, is_script, is_state, is_step, step_back, stepped
from wiredorders.orders import last_order
from wiredorders.overtakings import some_row
from wiredorders.spans import moved_far, moved_near, span

SCRIPT = (("near", 0), ("scale", 1, (2, 1)), ("drop",))
SHARES = ((1, 1), (2, 3), (7, 2))


def all_steps(most):
    """Return the list of all steps with integers up to a number, and a few shares."""
    numbers = range(most + 1)
    steps = [(word, at) for word in ("far", "near", "put", "watch") for at in numbers]
    steps += [(word, at, share) for word in ("add", "scale") for at in numbers for share in SHARES]
    return steps + [("drop",), ("about",), ("over",)]


def drawn_states(chance, orders, rows=2):
    states = []
    for order in orders:
        every = all_rows(order)
        for row in chance.sample(every, min(rows, len(every))):
            states.append((len(order), row, drawn_shares(chance, row), chance.randint(0, len(row)), chance.randrange(len(order))))
    return states


def told_behind(state, step):
    """Return the state behind a step, or the class of the error, by the definition."""
    many, row, shares, spot, seat = state
    word, *items = step
    if word in ("far", "near"):
        try:
            return (many, *(moved_far if word == "far" else moved_near)(many, row, shares, *items), spot, seat)
        except errors.OrderError as caught:
            return type(caught)
    if word == "add":
        if items[0] > many - 2:
            return errors.InvalidExchange
        longer = row + (items[0],)
        return (many, longer, shares + (items[1],), spot, seat) if right_least_row(many, longer) else errors.NoRise
    if word == "drop":
        return (many, row[:-1], shares[:-1], spot, seat) if spot < len(row) else errors.Held
    if word == "about":
        return (many, row[::-1], shares[::-1], len(row) - spot, led_to(many, row).index(seat))
    if word == "over":
        return (many, tuple(many - 2 - exchange for exchange in row), shares, spot, many - 1 - seat)
    if word == "scale":
        return (many, row, scaled(row, shares, *items), spot, seat) if items[0] < many else errors.InvalidPlace
    if word == "put":
        return (many, row, shares, items[0], seat) if items[0] <= len(row) else errors.InvalidSpot
    return (many, row, shares, spot, items[0]) if items[0] < many else errors.InvalidThing


def scaled(row, shares, height, by):
    factors = {height: Fraction(*by), height - 1: 1 / Fraction(*by)}
    told = [Fraction(*share) * factors.get(exchange, 1) for exchange, share in zip(row, shares)]
    return tuple((share.numerator, share.denominator) for share in told)


def told_back(state, step):
    word = step[0]
    return {
        "add": ("drop",), "drop": None, "scale": step[:2] + (step[-1][::-1],) if word == "scale" else None,
        "put": (word, state[3]), "watch": (word, state[4]),
    }.get(word, step)


class Kinds(unittest.TestCase):
    def test_any_value(self):
        for index, value in enumerate(ANY):
            self.assertIs(is_state(value), right_state(value), f"value {index}")
            self.assertIs(is_step(value), right_step(value), f"value {index}")
            self.assertIs(is_script(value), right_script(value), f"value {index}")

    def test_states(self):
        for at, others in enumerate((
            (0, 31, True, "3", None, 2), ((0, 2, 0), [0, 1, 0], (0, 1), (0, 0, 0), (0, True, 0), None), (ONES[1:], ((2, 2),) * 3, list(ONES)),
            (-1, 4, True, None), (-1, 3, False, (0,)),
        )):
            for other in others:
                self.assertFalse(is_state(STATE[:at] + (other,) + STATE[at + 1:]), f"item {at}: {other}")
        self.assertTrue(is_state((30, some_row(last_order(30)), ((1, 1),) * 435, 435, 29)))
        self.assertTrue(is_state((1, (), (), 0, 0)))
        self.assertFalse(is_state((1, (), (), 1, 0)))
        self.assertFalse(is_state(list(STATE)))

    def test_steps(self):
        for step, right in (
            (("far", 449), True), (("far", 450), False), (("near", 449), True), (("near", -1), False), (("add", 29, (1000, 999)), True),
            (("add", 30, (1, 1)), False), (("add", 0, (1001, 1)), False), (("add", 0, (1, 1001)), False), (("add", 0, (2, 4)), False),
            (("add", 0), False), (("add", 0, 1), False), (("drop",), True), (("drop", 0), False), (("scale", 29, (1, 1000)), True),
            (("scale", 30, (1, 2)), False), (("put", 449), True), (("put", 450), False), (("watch", 29), True), (("watch", 30), False),
            (("about",), True), (("over",), True), (("none",), False), ((), False), (["drop"], False), ("drop", False), (("far", True), False),
            (("add", 0, (1, True)), False), ((("far",), 0), False), (("scale", (2, 1), 0), False), (("far", "0"), False), (("far", BIG), False),
        ):
            self.assertIs(is_step(step), right, step)
        self.assertTrue(is_script(()))
        self.assertTrue(is_script((("drop",),) * 12))
        self.assertFalse(is_script((("drop",),) * 13))
        self.assertFalse(is_script([("drop",)]))
        self.assertFalse(is_script((("drop",), ("none",))))


class Steps(unittest.TestCase):
    def check(self, state, step):
        told = told_behind(state, step)
        if isinstance(told, type):
            for function in (stepped, step_back):
                with self.assertRaises(errors.OrderError) as caught:
                    function(state, step)
                self.assertIs(type(caught.exception), told, (state, step))
            return None
        behind = stepped(state, step)
        self.assertEqual(behind, told, (state, step))
        self.assertTrue(is_state(behind))
        back = step_back(state, step)
        self.assertEqual(back, told_back(state, step))
        if back is not None:
            self.assertEqual(stepped(behind, back), state)
        return behind

    def test_few(self):
        chance = random.Random(19)
        orders = [order for many in (1, 2, 3) for order in all_orders(many)]
        for state in drawn_states(chance, orders, 2):
            for spot, seat in itertools.product(range(len(state[1]) + 1), range(state[0])):
                for step in all_steps(4):
                    self.check(state[:3] + (spot, seat), step)

    def test_more(self):
        chance = random.Random(20)
        for state in drawn_states(chance, all_orders(4) + [(3, 0, 4, 1, 2), (4, 3, 2, 1, 0), (0, 4, 3, 1, 2)], 3):
            for step in all_steps(11):
                self.check(state, step)

    def test_scaling_and_span(self):
        chance = random.Random(21)
        for state in drawn_states(chance, all_orders(3) + all_orders(4)[::3], 1):
            many = state[0]
            table = [[Fraction(*item) for item in line] for line in span(*state[:3])]
            for height, by in itertools.product(range(many), SHARES):
                behind = span(*stepped(state, ("scale", height, by))[:3])
                for at, line in enumerate(table):
                    for other, item in enumerate(line):
                        factor = Fraction(*by) ** ((at == height) - (other == height))
                        self.assertEqual(Fraction(*behind[at][other]), item * factor)

    def test_moves_leave_the_span(self):
        chance = random.Random(22)
        for state in drawn_states(chance, all_orders(4), 2):
            for step in [(word, at) for word in ("far", "near") for at in range(len(state[1]))]:
                if not isinstance(told_behind(state, step), type):
                    self.assertEqual(span(*stepped(state, step)[:3]), span(*state[:3]))

    def test_thirty_things(self):
        row = some_row(last_order(30))
        state = (30, row, drawn_shares(random.Random(23), row), 400, 29)
        for step in (("about",), ("over",), ("scale", 29, (1000, 1)), ("scale", 0, (1, 999)), ("put", 435), ("put", 436), ("drop",),
                     ("watch", 29), ("watch", 0), ("add", 28, (1, 1)), ("far", 434), ("far", 433), ("near", 432), ("near", 449)):
            self.check(state, step)
        self.check(state[:3] + (435, 0), ("drop",))
        self.check((30, row[:-1], state[2][:-1], 0, 0), ("add", row[-1], (1000, 999)))
        self.check((30, (), (), 0, 0), ("drop",))

    def test_errors_by_word(self):
        for state, step, error in (
            (STATE, ("far", 2), errors.InvalidIndex), (STATE, ("far", 0), errors.NoMove), (STATE, ("near", 1), errors.InvalidIndex),
            ((3, (0, 1), ONES[1:], 0, 0), ("near", 0), errors.InvalidIndex), (STATE, ("add", 2, (1, 1)), errors.InvalidExchange),
            (STATE, ("add", 0, (1, 1)), errors.NoRise), ((3, (), (), 0, 0), ("drop",), errors.Held), (STATE[:3] + (3, 0), ("drop",), errors.Held),
            (STATE, ("scale", 3, (1, 1)), errors.InvalidPlace), (STATE, ("put", 4), errors.InvalidSpot), (STATE, ("watch", 3), errors.InvalidThing),
            (STATE, ("none",), errors.InvalidStep), (STATE[:4], ("drop",), errors.InvalidState), (None, None, errors.InvalidState),
        ):
            for function in (stepped, step_back):
                with self.assertRaises(errors.OrderError) as caught:
                    function(state, step)
                self.assertIs(type(caught.exception), error)


class Scripts(unittest.TestCase):
    def test_all_stepped(self):
        chance = random.Random(24)
        steps = all_steps(3)
        for state in drawn_states(chance, all_orders(3) + all_orders(4)[::2], 2):
            for length in (0, 1, 2, 4, 12):
                script = tuple(chance.choice(steps) for _ in range(length))
                states, error = [state], None
                for step in script:
                    told = told_behind(states[-1], step)
                    if isinstance(told, type):
                        error = told
                        break
                    states.append(told)
                if error is None:
                    self.assertEqual(all_stepped(state, script), states)
                else:
                    with self.assertRaises(errors.OrderError) as caught:
                        all_stepped(state, script)
                    self.assertIs(type(caught.exception), error)

    def test_scripts_that_go(self):
        """Scripts of twelve steps, each of which can be done."""
        chance = random.Random(25)
        steps = all_steps(4)
        for state in drawn_states(chance, all_orders(4)[3::4], 1):
            script, held = (), state
            while len(script) < 12:
                step = chance.choice(steps)
                if not isinstance(told_behind(held, step), type):
                    script, held = script + (step,), told_behind(held, step)
            states = all_stepped(state, script)
            self.assertEqual((len(states), states[0], states[-1]), (13, state, held))
            self.assertTrue(all(map(right_state, states)))

    def test_edges(self):
        self.assertEqual(all_stepped(STATE, ()), [STATE])
        self.assertEqual(len(all_stepped(STATE, (("about",),) * 12)), 13)
        for script in ((("about",),) * 13, [("about",)], (("about",), ("none",)), None, ("about",)):
            with self.assertRaises(errors.InvalidScript):
                all_stepped(STATE, script)
        with self.assertRaises(errors.InvalidState):
            all_stepped(None, None)
        with self.assertRaises(errors.Held):
            all_stepped(STATE, SCRIPT + (("drop",), ("drop",)))

    def test_returned_lists_are_new(self):
        states = all_stepped(STATE, SCRIPT)
        states.clear()
        self.assertEqual(len(all_stepped(STATE, SCRIPT)), 4)

    def test_pairs_of_added(self):
        """What is added makes just the overtaking of the two things that it exchanges."""
        for order in all_orders(3):
            row = all_rows(order)[0]
            for exchange in range(2):
                state = (3, row, ((1, 1),) * len(row), 0, 0)
                if order[exchange] < order[exchange + 1]:
                    longer = stepped(state, ("add", exchange, (1, 1)))[1]
                    more = set(pairs_over(led_to(3, longer))) - set(pairs_over(order))
                    self.assertEqual(more, {(order[exchange], order[exchange + 1])})


if __name__ == "__main__":
    unittest.main()
