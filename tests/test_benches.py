"""Benches: what is done on them, taken back and done anew."""

import random
import unittest

from tests.test_states import all_steps, drawn_states, told_behind
from tests.values import ANY, ONES, STATE, all_orders, is_int, led_to, pairs_over, right_script, right_state, right_step
from wiredorders import errors
from wiredorders.lifebenches import Bench
from wiredorders.lifevalues import Spanned
from wiredorders.orders import last_order
from wiredorders.overtakings import some_row
from wiredorders.spans import heights_of, met_pairs, span

SCRIPT = (("near", 0), ("scale", 1, (2, 1)), ("drop",))


class Other(Exception):
    """An error that is none of the package's."""


def shown(bench):
    """Return all that a bench tells."""
    return (
        bench.state, bench.row, bench.shares, bench.spot, bench.seat, bench.order, bench.here, bench.wire, bench.table,
        bench.log, len(bench), bool(bench), list(bench.lines()),
    )


def redone(bench):
    """Return how many calls can be done again, and leave the bench as it was."""
    count = 0
    try:
        while True:
            bench.redo()
            count += 1
    except errors.NothingToRedo:
        for _ in range(count):
            bench.undo()
    return count


class Case(unittest.TestCase):
    def check_error(self, error, function, *args):
        with self.assertRaises(errors.OrderError) as caught:
            function(*args)
        self.assertIs(type(caught.exception), error)
        return caught.exception

    def check_held(self, bench, error, function, *args):
        """A call that fails changes nothing, also not what can be done again."""
        before, again = shown(bench), redone(bench)
        caught = self.check_error(error, function, *args)
        self.assertEqual((shown(bench), redone(bench)), (before, again))
        return caught


class Shown(Case):
    def test_properties(self):
        chance = random.Random(31)
        orders = [order for many in (1, 2, 3, 4) for order in all_orders(many)] + [(3, 0, 4, 1, 2)]
        for state in drawn_states(chance, orders, 2):
            many, row, shares, spot, seat = state
            bench, order, pairs = Bench(state), led_to(many, row), met_pairs(many, row)
            self.assertEqual((bench.state, bench.row, bench.shares, bench.spot, bench.seat), (state, row, shares, spot, seat))
            self.assertEqual((bench.order, bench.here), (order, led_to(many, row[:spot])))
            self.assertEqual((bench.wire, bench.table), (heights_of(many, row, seat), span(many, row, shares)))
            self.assertEqual((bench.log, len(bench)), ((), 0))
            self.assertIs(bool(bench), order == tuple(range(many))[::-1])
            self.assertEqual([bench[at] for at in range(len(row))], list(zip(row, shares, pairs)))
            stars = ["*" if seat in pair else "" for pair in pairs]
            told = [f"{exchange}: {pair[0]}-{pair[1]}{star}" for exchange, pair, star in zip(row, pairs, stars)]
            self.assertEqual(list(bench.lines()), told)
            for index, value in enumerate(ANY + pairs_over(order) + [pair[::-1] for pair in pairs]):
                right = type(value) is tuple and len(value) == 2 and all(is_int(item, 0, many - 1) for item in value)
                self.assertIs(value in bench, right and value in pairs_over(order), f"value {index}")

    def test_made_of_any_value(self):
        for index, value in enumerate(ANY):
            if right_state(value):
                self.assertEqual(Bench(value).state, value)
            else:
                self.check_error(errors.InvalidState, Bench, value)
        self.assertEqual(Bench.MOST, 60)
        self.assertEqual(Bench(STATE).MOST, 60)

    def test_no_property_is_set(self):
        bench = Bench(STATE)
        for name in ("state", "row", "shares", "spot", "seat", "order", "here", "wire", "table", "log"):
            with self.assertRaises(AttributeError):
                setattr(bench, name, None)

    def test_items_of_any_value(self):
        bench = Bench(STATE)
        for value in ANY + [3, -1, True, slice(0, 1)]:
            if not is_int(value, 0, 2):
                self.check_held(bench, errors.InvalidIndex, lambda: bench[value])

    def test_not_iterated_over(self):
        bench = Bench(STATE)
        for function in (iter, list, tuple, sorted, set, lambda value: [item for item in value]):
            with self.assertRaises(TypeError):
                function(bench)

    def test_equal(self):
        one, other = Bench(STATE), Bench(STATE)
        self.assertTrue(one == other and not one != other)
        one.do(("put", 2))
        self.assertFalse(one == other)
        other += (("put", 0), ("put", 2))
        # What can be taken back makes no difference.
        self.assertTrue(one == other)
        self.assertFalse(one == one.state)
        self.assertFalse(one == Spanned(3, (0, 1, 0), ONES))
        for value in ANY:
            self.assertEqual(one == value, isinstance(value, Bench) and value.state == one.state)

    def test_lines_show_what_there_is_at_the_first_item(self):
        bench = Bench(STATE)
        lines = bench.lines()
        bench.do(("near", 0))
        self.assertEqual(next(lines), "1: 1-2")
        bench += (("drop",), ("drop",), ("watch", 2))
        self.assertEqual(list(lines), ["0: 0-2*", "1: 0-1*"])
        self.assertEqual(list(bench.lines()), ["1: 1-2*"])
        self.assertIs(iter(lines), lines)
        self.assertEqual(list(Bench((1, (), (), 0, 0)).lines()), [])


class Done(Case):
    def test_do(self):
        chance = random.Random(32)
        for state in drawn_states(chance, all_orders(3) + all_orders(4)[::5], 1):
            for step in all_steps(3):
                bench, told = Bench(state), told_behind(state, step)
                if isinstance(told, type):
                    self.check_held(bench, told, bench.do, step)
                else:
                    self.assertIs(bench.do(step), told != state)
                    self.assertEqual((bench.state, bench.log, len(bench)), (told, (step,), 1))
                    self.assertIsNone(bench.undo())
                    self.assertEqual((bench.state, bench.log, len(bench)), (state, (), 0))
                    self.assertIsNone(bench.redo())
                    self.assertEqual((bench.state, bench.log, len(bench)), (told, (step,), 1))

    def test_wrong_steps_and_scripts(self):
        bench = Bench(STATE)
        bench.do(("put", 0))
        bench.undo()
        for value in ANY:
            if not right_step(value):
                self.check_held(bench, errors.InvalidStep, bench.do, value)
            if not right_script(value):
                self.check_held(bench, errors.InvalidScript, bench.__iadd__, value)
        self.check_held(bench, errors.Held, bench.__iadd__, (("drop",),) * 3)
        self.check_held(bench, errors.InvalidSpot, bench.__iadd__, (("drop",), ("put", 3)))

    def test_scripts(self):
        bench = Bench(STATE)
        held = bench
        bench += SCRIPT
        self.assertIs(bench, held)
        self.assertEqual((bench.row, bench.log, len(bench)), ((1, 0), SCRIPT, 1))
        bench += ()
        self.assertEqual((bench.log, len(bench)), (SCRIPT, 2))
        bench.do(("watch", 1))
        self.assertEqual((bench.log, len(bench)), (SCRIPT + (("watch", 1),), 3))
        for _ in range(3):
            bench.undo()
        self.assertEqual((bench.state, bench.log, len(bench)), (STATE, (), 0))
        self.check_held(bench, errors.NothingToUndo, bench.undo)

    def test_calls_that_change_nothing(self):
        bench = Bench(STATE)
        self.assertFalse(bench.do(("put", 1)))
        bench += ()
        bench += (("about",), ("about",))
        self.assertEqual((len(bench), bench.state), (3, STATE))
        for count in (2, 1, 0):
            bench.undo()
            self.assertEqual(len(bench), count)
        self.check_error(errors.NothingToUndo, bench.undo)
        for count in (1, 2, 3):
            bench.redo()
            self.assertEqual(len(bench), count)
        self.check_error(errors.NothingToRedo, bench.redo)

    def test_redo_ends_with_what_is_done(self):
        for further in (lambda bench: bench.do(("put", 1)), lambda bench: bench.__iadd__(())):
            bench = Bench(STATE)
            bench.do(("put", 0))
            bench.do(("put", 2))
            bench.undo()
            bench.undo()
            # A call that fails leaves what can be done again.
            self.check_held(bench, errors.InvalidSpot, bench.do, ("put", 4))
            self.check_held(bench, errors.InvalidStep, bench.do, None)
            bench.redo()
            self.assertEqual(bench.spot, 0)
            further(bench)
            self.check_held(bench, errors.NothingToRedo, bench.redo)
            self.assertEqual(len(bench), 2)

    def test_sixty_calls(self):
        bench = Bench(STATE)
        for at in range(60):
            bench.do(("put", at % 3))
        self.assertEqual(len(bench), 60)
        for function, value in ((bench.do, ("put", 1)), (bench.__iadd__, ()), (bench.__iadd__, SCRIPT)):
            self.assertEqual(self.check_held(bench, errors.TooMany, function, value).limit, 60)
        # All other errors come first.
        self.check_held(bench, errors.InvalidStep, bench.do, ("put",))
        self.check_held(bench, errors.InvalidSpot, bench.do, ("put", 4))
        self.check_held(bench, errors.InvalidScript, bench.__iadd__, None)
        self.check_held(bench, errors.Held, bench.__iadd__, (("drop",),) * 4)
        bench.undo()
        bench += SCRIPT
        self.assertEqual(len(bench), 60)
        self.check_held(bench, errors.TooMany, bench.do, ("about",))
        for _ in range(60):
            bench.undo()
        self.assertEqual(bench.state, STATE)
        for _ in range(60):
            bench.redo()
        self.assertEqual((len(bench), bench.row), (60, (1, 0)))

    def test_long_walks(self):
        """Whatever is done, all is taken back, call by call, and done anew to the same."""
        chance = random.Random(33)
        steps = all_steps(3)
        for state in drawn_states(chance, all_orders(3) + all_orders(4)[::4], 1):
            bench, told = Bench(state), []
            for _ in range(60):
                before = shown(bench)
                try:
                    if chance.random() < 0.5:
                        bench.do(chance.choice(steps))
                    else:
                        bench += tuple(chance.choice(steps) for _ in range(chance.randint(0, 3)))
                    told.append(before)
                except errors.OrderError:
                    self.assertEqual(shown(bench), before)
            told.append(shown(bench))
            for back in told[-2::-1]:
                bench.undo()
                self.assertEqual(shown(bench), back)
            self.check_held(bench, errors.NothingToUndo, bench.undo)
            for behind in told[1:]:
                bench.redo()
                self.assertEqual(shown(bench), behind)
            self.check_held(bench, errors.NothingToRedo, bench.redo)

    def test_objects_taken_stay_as_they_were(self):
        bench = Bench(STATE)
        kept = shown(bench)
        copy = Bench(bench.state)
        bench += SCRIPT
        self.assertEqual(kept, shown(copy))
        self.assertEqual(kept[0], STATE)
        self.assertNotEqual(shown(bench), kept)


class Attempts(Case):
    def test_that_ends_well(self):
        bench = Bench(STATE)
        self.assertEqual(bench.attempt(lambda held: (held.do(("put", 0)), held.do(("put", 0)), held is bench)), (True, False, True))
        self.assertEqual((bench.spot, len(bench)), (0, 2))
        self.assertIsNone(bench.attempt(Bench.undo))
        self.assertEqual(len(bench), 1)

    def ended(self, *calls, error=Other):
        """Return a function that does some calls, and ends with an error."""
        def action(bench):
            for call in calls:
                call(bench)
            raise error("why")
        return action

    def test_that_fails(self):
        for kind in (Other, KeyError, errors.Unlike, ZeroDivisionError, KeyboardInterrupt, StopIteration):
            bench = Bench(STATE)
            bench.do(("put", 0))
            bench.do(("put", 3))
            bench.undo()
            before, again = shown(bench), redone(bench)
            calls = (
                lambda held: held.do(("watch", 2)), lambda held: held.__iadd__(SCRIPT), lambda held: held.undo(),
                lambda held: held.undo(), lambda held: held.undo(), lambda held: held.redo(),
            )
            for count in range(len(calls) + 1):
                with self.assertRaises(kind):
                    bench.attempt(self.ended(*calls[:count], error=kind))
                self.assertEqual((shown(bench), redone(bench)), (before, again))

    def test_errors_of_the_bench(self):
        bench = Bench(STATE)
        bench.do(("put", 0))
        self.check_held(bench, errors.InvalidSpot, bench.attempt, lambda held: (held.do(("put", 2)), held.do(("put", 9))))
        self.check_held(bench, errors.NothingToUndo, bench.attempt, lambda held: (held.undo(), held.undo()))
        self.check_held(bench, errors.TooMany, bench.attempt, lambda held: [held.do(("put", 2)) for _ in range(60)])
        bench.undo()
        self.check_held(bench, errors.NothingToRedo, bench.attempt, lambda held: (held.redo(), held.redo()))

    def test_within_one_another(self):
        bench = Bench(STATE)

        def outer(held):
            count = len(held)
            held.do(("put", 0))
            with self.assertRaises(Other):
                held.attempt(self.ended(lambda each: each.do(("put", 3)), lambda each: each.undo(), lambda each: each.undo()))
            self.assertEqual((held.spot, len(held)), (0, count + 1))
            held.attempt(lambda each: each.do(("put", 2)))
            self.assertEqual((held.spot, len(held)), (2, count + 2))
            return "told"

        self.assertEqual(bench.attempt(outer), "told")
        self.assertEqual((bench.spot, len(bench)), (2, 2))
        before = shown(bench)
        with self.assertRaises(Other):
            bench.attempt(lambda held: (outer(held), held.attempt(self.ended())))
        self.assertEqual(shown(bench), before)

        def deep(held):
            held.do(("watch", 1))
            held.attempt(self.ended(lambda each: each.do(("watch", 2))))

        with self.assertRaises(Other):
            bench.attempt(deep)
        self.assertEqual(shown(bench), before)

    def test_thirty_things(self):
        row = some_row(last_order(30))
        bench = Bench((30, row, ((1, 1),) * 435, 0, 0))
        self.assertTrue(bench)
        with self.assertRaises(Other):
            bench.attempt(self.ended(lambda held: held.__iadd__((("over",), ("drop",), ("about",)))))
        self.assertEqual((bench.row, bench.order), (row, last_order(30)))
        bench += (("drop",),) * 12
        self.assertEqual(len(bench.row), 423)


if __name__ == "__main__":
    unittest.main()
