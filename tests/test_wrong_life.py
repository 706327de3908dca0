"""Wrong inputs of orders carried, patterns, big counts, spans, states, rows told and texts."""

import re

from tests.sweeps import FREE, MANY, ORDER, ROW, Sweep
from tests.values import (
    ONES, STATE, all_rows, are_ints, is_among, is_int, pairs_over, right_order, right_pairs, right_row, right_script, right_share,
    right_shares, right_state, right_step, rises,
)
from wiredorders import bigcounts, countcarried, errors, lifestates, lifetexts, patterns, spans, tellrows

M, W, LAST = (3, 0, 4, 1, 2), (2, 0, 1), (2, 1, 0)
SCRIPT = (("near", 0), ("scale", 1, (2, 1)), ("drop",))
FACTS = (("does", 0, 0, True), ("ahead", (0, 2), (1, 2), False))
GREAT = 10 ** 30
NUMBER = re.compile("0|[1-9][0-9]*")


def right_pattern(value):
    return right_order(value) and len(value) <= 5


def right_fact(order, value):
    if type(value) is not tuple or len(value) != 4 or type(value[0]) is not str or type(value[3]) is not bool:
        return False
    word, one, other, _ = value
    over = pairs_over(order)
    if word == "ahead":
        return right_pairs(len(order), (one, other)) and one in over and other in over and one != other
    if not is_int(one, 0, len(over) - 1):
        return False
    if word == "does":
        return is_int(other, 0, len(order) - 2)
    return word == "meets" and right_pairs(len(order), (other,)) and other in over


def right_facts(order, value):
    return type(value) is tuple and len(value) <= 8 and all(right_fact(order, fact) for fact in value)


def numbers_told(value):
    """Return the tuple of the numbers of a text, or None."""
    if type(value) is not str or value and not all(map(NUMBER.fullmatch, value.split(" "))):
        return None
    return tuple(map(int, value.split(" "))) if value else ()


def share_told(text):
    top, stroke, below = text.partition("/")
    if not NUMBER.fullmatch(top) or stroke and not NUMBER.fullmatch(below) or below == "1":
        return None
    return (int(top), int(below) if stroke else 1)


def shares_told(value):
    if type(value) is not str:
        return None
    return tuple(map(share_told, value.split(" "))) if value else ()


def step_told(line):
    word, *items = line.split(" ")
    told = [share_told(item) if word in ("add", "scale") and at == 1 else (numbers_told(item) or (None,))[0] for at, item in enumerate(items)]
    return (word, *told)


def right_script_text(value):
    return type(value) is str and (value == "" or right_script(tuple(map(step_told, value.split("\n")))))


def number_from(low, high):
    return (errors.InvalidNumber, lambda args, value: is_int(value, low, high))


def text(right):
    return (errors.InvalidText, right)


PATTERN = (errors.InvalidPattern, lambda args, value: right_pattern(value))
PATTERNS = (
    errors.InvalidPatterns, lambda args, value: type(value) is tuple and 1 <= len(value) <= 6 and all(map(right_pattern, value)),
)
PLACES = (errors.InvalidPlaces, lambda args, value: are_ints(value, 0, args[0] - 2) and rises(value))
THINGS = (errors.InvalidMany, lambda args, value: is_int(value, 1, GREAT))
SHARES = (errors.InvalidShares, lambda args, value: right_shares(args[1], value))
PLACE = (errors.InvalidPlace, lambda args, value: is_int(value, 0, args[0] - 1))
ONLY_INDEX = (errors.InvalidIndex, lambda args, value: is_int(value, 0, 0))
THING = (errors.InvalidThing, lambda args, value: is_int(value, 0, args[0] - 1))
STATES = (errors.InvalidState, lambda args, value: right_state(value))
STEP = (errors.InvalidStep, lambda args, value: right_step(value))
SCRIPTS = (errors.InvalidScript, lambda args, value: right_script(value))
FACT = (errors.InvalidFacts, lambda args, value: right_facts(args[0], value))
PAIR = (errors.InvalidPairs, lambda args, value: is_among(value, 1, [pair for pair in pairs_over(args[0]) if pair != args[3]]))
OTHER = (errors.InvalidPairs, lambda args, value: is_among(value, 1, [pair for pair in pairs_over(args[0]) if pair != args[2]]))
ROW_OF = (errors.InvalidRow, lambda args, value: is_among(value, 1, all_rows(args[0])))
FAR = (4, (0, 2), ((1, 2), (3, 1)))

TABLE = [
    (countcarried.weight_to_size, (M,), (ORDER,)),
    (countcarried.size_to_weight, (M,), (ORDER,)),
    (countcarried.rings_to_tops, (M,), (ORDER,)),
    (countcarried.tops_to_rings, (M,), (ORDER,)),
    (patterns.spots, (M, (1, 0, 2)), (ORDER, PATTERN)),
    (patterns.count_spots, (M, (1, 0, 2)), (ORDER, PATTERN)),
    (patterns.has_pattern, (M, (1, 0, 2)), (ORDER, PATTERN)),
    (patterns.orders_without, (3, ((0, 1),)), (MANY, PATTERNS)),
    (patterns.count_without, (3, ((0, 1),)), (MANY, PATTERNS)),
    (bigcounts.count_falls_at, (5, (1, 3)), (MANY, PLACES)),
    (bigcounts.count_falls_at, (1, ()), (MANY, PLACES)),
    (bigcounts.count_sized, (GREAT, 25), (THINGS, number_from(0, 25))),
    (bigcounts.count_ringed, (GREAT, 12), (THINGS, number_from(0, 12))),
    (bigcounts.falls_rest, (GREAT, 25, 10 ** 12), (THINGS, number_from(0, 25), number_from(1, 10 ** 12))),
    (bigcounts.unstill_rest, (GREAT, 2000), (THINGS, number_from(1, 2000))),
    (spans.are_shares, (3, (0, 1, 0), ONES), (MANY, ROW, FREE)),
    (spans.span, (3, (0, 1, 0), ONES), (MANY, ROW, SHARES)),
    (spans.span, (3, (0,), ((2, 3),)), (MANY, ROW, SHARES)),
    (spans.span_at, (3, (0, 1, 0), ONES, 0, 2), (MANY, ROW, SHARES, PLACE, PLACE)),
    (spans.moved_far, (*FAR, 0), (MANY, ROW, SHARES, ONLY_INDEX)),
    (spans.moved_near, (3, (0, 1, 0), ONES, 0), (MANY, ROW, SHARES, ONLY_INDEX)),
    (spans.met_pairs, (3, (0, 1)), (MANY, ROW)),
    (spans.heights_of, (3, (0, 1), 2), (MANY, ROW, THING)),
    (lifestates.stepped, (STATE, ("about",)), (STATES, STEP)),
    (lifestates.all_stepped, (STATE, SCRIPT), (STATES, SCRIPTS)),
    (lifestates.step_back, (STATE, ("drop",)), (STATES, STEP)),
    (tellrows.rows_told, (LAST, FACTS), (ORDER, FACT)),
    (tellrows.rows_told, (W, ()), (ORDER, FACT)),
    (tellrows.surely_ahead, (LAST, FACTS, (0, 1), (1, 2)), (ORDER, FACT, PAIR, OTHER)),
    (tellrows.fewest_items, (LAST, (0, 1, 0)), (ORDER, ROW_OF)),
    (tellrows.fewest_items, ((0,), ()), (ORDER, ROW_OF)),
    (lifetexts.order_text, (M,), (ORDER,)),
    (lifetexts.row_text, (3, (0, 1)), (MANY, ROW)),
    (lifetexts.shares_text, (3, (0, 1, 0), ONES), (MANY, ROW, SHARES)),
    (lifetexts.script_text, (SCRIPT,), (SCRIPTS,)),
    (lifetexts.read_order, ("2 0 1",), (text(lambda args, value: right_order(numbers_told(value))),)),
    (lifetexts.read_row, (3, "0 1"), (MANY, text(lambda args, value: right_row(args[0], numbers_told(value))))),
    (lifetexts.read_shares, (3, (0, 1, 0), "1/2 2 1"), (MANY, ROW, text(lambda args, value: right_shares(args[1], shares_told(value))))),
    (lifetexts.read_script, ("far 0\nadd 1 2/3",), (text(lambda args, value: right_script_text(value)),)),
]


class Wrong(Sweep):
    def test_each_argument(self):
        self.sweep_arguments(TABLE)

    def test_from_left_to_right(self):
        self.sweep_from_left(TABLE)

    def test_told(self):
        self.check_told(lifestates.is_state, right_state)
        self.check_told(lifestates.is_step, right_step)
        self.check_told(lifestates.is_script, right_script)
        self.check_told(spans.is_share, right_share)

    def test_alone(self):
        check = self.check_error
        for pattern in ((), (0, 0), (0, 1, 2, 3, 4, 5), [0], (1,), None):
            check(errors.InvalidPattern, patterns.spots, (M, pattern), "no pattern")
            check(errors.InvalidPatterns, patterns.count_without, (3, ((0,), pattern)), "no pattern")
        for lot in ((), ((0,),) * 7, [(0,)], (0,), None):
            check(errors.InvalidPatterns, patterns.orders_without, (3, lot), "no patterns")
        for places in ((4,), (1, 1), (2, 1), (-1,), [1], (True,), None):
            check(errors.InvalidPlaces, bigcounts.count_falls_at, (5, places), "no places")
        check(errors.InvalidPlaces, bigcounts.count_falls_at, (1, (0,)), "the last place")
        for function, args in ((bigcounts.count_sized, (26, -1, True)), (bigcounts.count_ringed, (13, -1, None))):
            for value in args:
                check(errors.InvalidNumber, function, (5, value), "out of bounds")
            for things in (0, -1, GREAT + 1, True, None):
                check(errors.InvalidMany, function, (things, 99), "no number of things")
        for numbers in ((26, 1), (-1, 1), (0, 0), (0, 10 ** 12 + 1), (25, -1)):
            check(errors.InvalidNumber, bigcounts.falls_rest, (5, *numbers), "out of bounds")
        for modulus in (0, 2001, -1, True, 10 ** 12):
            check(errors.InvalidNumber, bigcounts.unstill_rest, (5, modulus), "out of bounds")
        for index in (-1, 1, 2, 450, None, True, (0,)):
            check(errors.InvalidIndex, spans.moved_far, (*FAR, index), "no index")
            check(errors.InvalidIndex, spans.moved_near, (3, (0, 1, 0), ONES, index), "no index")
        check(errors.NoMove, spans.moved_far, (3, (0, 1, 0), ONES, 0), "neighbours")
        check(errors.NoMove, spans.moved_near, (4, (0, 2, 0), ONES, 0), "far apart")
        check(errors.InvalidShares, spans.span, (3, (0, 1), ONES), "too many shares")

    def test_returned_lists_are_new(self):
        self.check_new_lists((
            (patterns.spots, (M, (1, 0, 2))), (patterns.orders_without, (3, ((0, 1),))), (lifestates.all_stepped, (STATE, SCRIPT)),
            (tellrows.rows_told, (LAST, ())),
        ))
