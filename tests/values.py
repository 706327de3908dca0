"""Any values, and plain rules, written apart from the program, of which of them are right."""

import functools
import itertools
import math

from wiredorders.errors import InvalidOrder, TooMany
from wiredorders.lifebenches import Bench
from wiredorders.lifevalues import Spanned

BIG = int("9" * 120)
ONES = ((1, 1),) * 3
STATE = (3, (0, 1, 0), ONES, 1, 0)


def nested(depth, inside, width):
    """Return tuples in tuples; written out, they would have width ** depth items."""
    for _ in range(depth):
        inside = (inside,) * width
    return inside


ANY = [
    None, True, False, 0, 1, 2, 3, 4, 5, 6, 7, 12, 13, 29, 30, 31, 199, 200, 449, 450, -1, -2, -30, BIG, -BIG,
    10 ** 30, 10 ** 30 + 1, -10 ** 30 - 1,
    "", "0", "far", "near", "0 1", "a\nb", "x" * 1000,
    [], [0], [0, 1], [1, 0], [(0, 1)], [()], [[0, 1]], [None], [-1], [[0, 1], [1, 0]], [BIG],
    (), (0,), (1,), (2,), (0, 0), (0, 1), (1, 0), (1, 1), (0, 2), (2, 0), (1, 2), (-1, 0), (0, -1), (0, BIG), (-BIG,),
    (0, 1, 2), (2, 1, 0), (0, 1, 0), (1, 0, 1), (2, 0, 1), (1, 1, 0), (0, 1, 3), (0, 0, 0), (1, 0, 3, 2), (3, 0, 4, 1, 2),
    (True,), (False,), (True, False), (False, True), (0, True), (True, 0), (2, True, 0), (0, None), (None,), ("0",), ("0", "1"),
    ("far", 0), ("near", 0), ("far", True), ("near", False), ("far", -1), ("near", BIG), ("far",), ("far", 0, 0), ["far", 0],
    ("near", 1), ("far", 1), ("far", "0"), ("far", None), (0, "far"), ("", 0), (("far", 0),), (("near", 0),), (["near", 0],),
    ((),), ((), ()), ((0,),), ((0, 1),), ([0, 1],), ((0, 1), (0, 2)), ((0, 2), (0, 1)), ((0, 1), (0, 1)), ((1, 0),),
    ((0, 2), (1, 2)), ((1, 2), (0, 2)), ((0, 1), (0, 2), (1, 2)), ((0, 1), (1, 2)), ((0, 1, 2),), ((2, 1, 0),), ((0, True),),
    ((False, 1),), ((False, 2), (1, 2)), ((0, 1, 2), (0, 1, 2)), ((0, 1, 2), (0, 1, 3)), ((0, 1, True),), ([0, 1, 2],), ((0, 1), 2),
    ((0, 1), None), ((0, 0),), ((0, 1), (2, 2)), ((0, 1), "x"), ((0, BIG),), ((-1, 0),),
    (1, ()), (2, ()), (2, ((0,),)), (2, ((0,), (0,))), (3, ((0,), (1,), (0,))), (3, ((1,), (0,), (1,))), (3, ((0, 1),)),
    (3, ((0,), ())), (3, [(0,)]), (3, ([0],)), [3, ((0,),)], (True, ()), (2, ((False,),)), (13, ()), (0, ()), (3, ((2,),)),
    (4, ((0, 2),)), (4, ((2, 0),)), (4, ((0,), (2,))), (4, ((0, 2), (1,), (0, 2), (1,))), (4, ((0, 0),)), (3, ()), (3, (), ()),
    (3, None), (3, 0), (3, ((-1,),)), (3, ((0,), 1)), (3, "01"), (12, ()), (12, ((10,),)), (12, ((11,),)),
    ((), (0,)), ((), (1,), (0, 1)), ((), (0,), (0, 1)), ((), (0,), (1,)), ((), (0,), (1, 0)), ((), (True,), (0, 1)), [(), (0,)],
    ((), [0]), ((), (0,), (0, 1), (0, 1, 2)), ((), (0,), (0, 0)), ((0,), (0, 1)), ((), (0, 1)), ((), (0,), (1, 2), (0, 1, 2)),
    tuple(range(30)), tuple(range(31)), tuple(range(29, -1, -1)), list(range(30)), tuple(range(500)), (0,) * 450, (0,) * 451,
    (0,) * 500, [0] * 500, (0, 1) * 100, ((),) * 500, ((0, 1),) * 500, (28,) * 450, (29,), (28,), (0,) * 30, (0,) * 31,
    (0, False), (False, 0), (True, True), (1, True), (False, False), [(4,)], ((4, 5),), [(3,)], [(0,), (0,)], [(0, 4)], ((5,),),
    (0, 1, 0, 1, 1), (1, 0, 1, 0, 0), (0, 0, 0, 1, 0), (0, 1, 0, 0, 0),
    ((), 0, 1), ((), 0, 2), ((2,), 0, 1), ((0,), 1, 2), ((), 1, 2), ((1,), 0, 2), ((), 1, 0), ((0,), 0, 1), ([], 0, 1),
    ((), False, 1), ((), 0, True), ((False,), 1, 2), ((), 0, 1, 2), ((0,), 1, 2, 3), ((), 0, 2, 1), ((), 0, 1, 3),
    ((), False, 1, 2), ((1,), 0, 1, 2), ((2, 0), 1, 3), ((), 0), ((), 0, BIG), (((),), 0, 1), ((-1,), 0, 1), (None, 0, 1),
    (((), 0, 1),), [((), 0, 1)], (((), 0, 2), ((0,), 1, 2)), (((0,), 1, 2), ((), 0, 2)), (((), 0, 2), ((False,), 1, 2)),
    (((), 0, 1), ((), 1, 2), ((1,), 0, 2)), (((), 0, 2), ((0,), 1, 2), ((2,), 0, 1)), (((), 0, 2), ((0,), 1, 2), 0),
    (((), 0, 1), ((), 0, 1)), (((), 0, 2), [(0,), 1, 2]), (((), 0, 2), ((0,), 1, 2), ((2,), 0, True)),
    (2, 1), (3, 2, 1), (2, 2), (1, 1, 1), (3, 2, 2), (2, 3), (2, 1, 0), (450,), (451,), (1,) * 450, (1,) * 451, (2,) * 226,
    (450, 1), (2, True), (True, True, True), (4, 3, 2, 1), (1, 2), (0, 3), (2, 0), (1, False), (False, 0), [2, 1], ((2, 1),),
    ((0, 2), (1,)), ((0, 1), (2,)), ((0, 1), (1,)), ((0,), (1,), (2,)), ((0, 1, 2), (3,)), ((0, 1), (2, 3)), ((0, 1), ()),
    ((0, 1), (0,)), ((0,), (1, 2)), ((1, 0), (2,)), ((0, 1), (2, True)), ((False, 1), (2,)), ((0, True), (2,)), ((0, 1), [2]),
    [(0, 1), (2,)], ((0, 2), (1, 3)), ((0, 3), (1, 2)), ((0, 2), (2, 3)), ((10 ** 6,),), ((10 ** 6 + 1,),), ((0,), (0,)),
    ((1,),), ((2,),), ((0, 2),), ((0,), (2,)), ((0, 1), (3,)), ((5,), (7,)), tuple((at,) for at in range(31)), (tuple(range(450)),),
    (tuple(range(451)),), (tuple(range(30)),), ((0, 1), 2, 3), ((0, 1), "12"), ((0, 1, 2), (1, 2), (2,)), (0, 1, 2, 0, 1, 0),
    ((0, 2), (1, 3), (4,)), ((4, 2), (3, 1)), ((2, 1), (0,)), ((2, 1, 0),), ((0, 1, 2), (3, 4)), ((0,), (0, 1)), ((0, 4),),
    ((3, 4), (0, 1, 2)), ((3,), (2,), (1,), (0,)), ((4, True),), ((3, 0),), ((3, 1), (4, 2), (0,)), ((4, 1), (3, 0)),
    ((0, 0), (0, 1)), ((0, 1), (0, 0)), ((0, 0), (1, 0)), ((0, 0), (0, 2)), ((0, 0), (1, 1)), ((0, 0), (2, 0)), ((1, 0), (0, 1)),
    ((0, 0), (0, 1), (1, 0)), ((0, 0), (0, 1), (0, 2), (2, 0), (2, 1)), ((0, 0), (0, 0)), ((0, 0), (0, True)), ((True, 0), (0, 1)),
    [(0, 0)], ([0, 0],), ((0, 0, 0),), ((0, 0), 1), ((0, 29),), ((29, 0),), ((28, 0),), ((0, 28),), ((14, 14),), ((-1, 1),),
    [(1, 0), (0, 1)], ([1, 0], (0, 1)), ((1, 0), (0, 1), (0, 0)), ((1, False), (0, 1)), ((1, 0), (0, True)), ((2, 0), (1, 1)),
    (((0, 0), 1),), (((0, 0, 0), 1),), (((1, 0, 0), 1),), (((0, 1, 0), 1), ((1, 0, 0), 1)), (((1, 0, 0), 1), ((0, 1, 0), 1)),
    (((2, 1, 0), -3),), (((0, 2, 0), 1),), (((0, 0, 1), 1),), (((3, 0, 0), 1),), (((1, 0, 0), 0),), (((1, 0, 0), True),),
    (((True, 0, 0), 1),), (((61, 0, 0), 1),), (((60, 0, 0), 1),), (((1, 0, 0), 10 ** 30),), (((1, 0, 0), 10 ** 30 + 1),),
    (((1, 0, 0), -10 ** 30),), (((1, 0, 0), BIG),), (([1, 0, 0], 1),), ([(1, 0, 0), 1],), [((1, 0, 0), 1)],
    (((1, 0, 0), 1), ((1, 0, 0), 2)), (((-1, 0, 0), 1),), (((1, 0, 0), "1"),), (((1, 0, 0), None),), (((0,), 1),),
    (((0, 0, 0, 0), 1),), (((0,) * 30, 1),), (((0,) * 29 + (1,), 1), ((1,) + (0,) * 29, -1)), (((1, 0, 0), 1, 1),),
    (((), 1),), (1000, 0, -1000), (1001, 0, 0), (0, -1001, 0), (0, 0, True), (5, 5, 5), [0, 0, 0], (0, "0", 0),
    ((0, 1), (1, 2), (0, 1)), ((0, 1), (2, 3), (0, 2), (1, 3), (1, 2)), ((0, 2),), ((2, 1),), ((1, 2), (2, 3)), ((0, 3),),
    ((0, 1),) * 120, ((0, 1),) * 121, ((0, 2),) * 120, ((True, 2),), ((0, 1), [1, 2]), ((28, 29),), ((29, 30),), ((1, 1),),
    (0, 1, 1), (1, 1, 0), (1, 0, 0), (1, 1, 1), (1, 0, True), (0, 1, 0, 1), (0, 0, 1, 1), (0, 0, 2), [0, 1, 1], (2, 0, 0),
    (1, 0, 2, 0, 1), (0, 1, 0, 1, 2), (0, 0, 1, 1, 1), (0, 1, 0, 1, True), (0, 1, 0, 1, -1), (0, 2, 3), (1, 2, 4), (0, 3, 1),
    "size", "falls", "weight", "rings", "tops", "stills", "overs", "Size", "size ", " falls", "IOIO",
    ((1, 1), (1, 1)), ONES, ((1, 2),), ((2, 4),), ((1, 2), (2, 1)), ((3, 2), (1, 1), (BIG, 1)), ((1, BIG),), ((BIG, BIG),), ((BIG, 1),),
    ((1, True),), ((True, 1),), [(1, 1)], ([1, 1],), ((1, 1, 1),), ((-1, 1),), ((1, -1),), ((-1, -1),), ("11",), ((1, 1), None),
    ((1, 1),) * 450, ((1, 1),) * 451, ((0, 1), (1, 1)), (1, 0), (2, 4), (1000, 1), (1001, 1), (1, 1000), (1, 1001), (BIG, 2),
    STATE, list(STATE), STATE[:4], STATE + (0,), (3, (0, 1, 0), ONES, 3, 2), (3, (0, 1, 0), ONES, 4, 0), (3, (0, 1, 0), ONES, 0, 3),
    (3, (0, 1, 0), ONES[1:], 1, 0), (3, (0, 0), ONES[1:], 0, 0), (True, (), (), 0, 0), (1, (), (), 0, 0), (0, (), (), 0, 0),
    (30, (), (), 0, 29), (31, (), (), 0, 0), (3, (2,), ONES[:1], 0, 0), (3, [0], ONES[:1], 0, 0), (3, (0,), ((2, 4),), 0, 0),
    (3, (0,), ((BIG, 1),), True, 0), (3, (0,), ((BIG, 1),), 0, False), (3, (0,), ((BIG, 1),), -1, 0), (3, (0,), ((BIG, 1),), 1, 2),
    ("far", 449), ("far", 450), ("near", 449), ("near", 450), ("add", 0, (1, 1)), ("add", 29, (1000, 999)), ("add", 30, (1, 1)),
    ("add", 0, (2, 4)), ("add", 0, (1001, 1)), ("add", 0, (1, 1001)), ("add", 0), ("add", 0, 1), ("add", 0, (0, 1)), ("add", True, (1, 1)),
    ("add", 0, [1, 1]), ("add", 0, (1, 1), 0), ("add", 0, (True, 1)), ("add", 0, BIG), ("drop",), ("drop", 0), ["drop"], "drop", ("about",),
    ("over",), ("over", ()), ("scale", 0, (2, 1)), ("scale", 29, (1, 1000)), ("scale", 30, (2, 1)), ("scale", 0, 2), ("scale", (2, 1), 0),
    ("put", 0), ("put", 3), ("put", 449), ("put", 450), ("put", False), ("put",), ("watch", 0), ("watch", 29), ("watch", 30), ("watch", None),
    ("none",), ("Drop",), ("",), (0, "far"), (("drop",),), (("drop",),) * 12, (("drop",),) * 13, [("drop",)], (["drop"],), ("drop", "drop"),
    (("far", 0), ("near", 1)), (("far", 0), ("near", -1)), (("put", 0), ("none",)), (("watch", 0), ("about",), ("over",)), (("add", 0, (1, 1)),),
    (("does", 0, 0, True),), (("does", 0, 1, False),), (("does", 0, 0, 1),), (("does", 0, 0),), (("does", 9, 0, True),), (("does", 0, 9, True),),
    (("does", True, 0, True),), (("does", -1, 0, True),), (("meets", 0, (0, 2), True),), (("meets", 0, (0, 1), True),), (("meets", 0, 0, True),),
    (("meets", 0, (2, 0), True),), (("meets", (0, 2), 0, True),), (("ahead", (0, 2), (1, 2), True),), (("ahead", (0, 2), (0, 2), True),),
    (("ahead", (1, 2), (0, 2), None),), (("ahead", 0, 1, True),), (("does", 0, 0, True),) * 8, (("does", 0, 0, True),) * 9,
    [("does", 0, 0, True)], (["does", 0, 0, True],), (("none", 0, 0, True),), (("does", 0, 0, True), None), (0, 0, 0, True),
    ((0, 1, 2), (2, 1, 0)), ((0,),) * 6, ((0,),) * 7, ((0, 1, 2, 3, 4),), ((0, 1, 2, 3, 4, 5),), [(0,)], ((0,), [0]), ((0,), (1,)), (0, 1, 2, 3, 4),
    (0, 1, 2, 3, 4, 5), ((1, 0), (0, 1), (0,)), (0, 1, 3), (1, 3), (3, 1), (28, 29), (0, 28),
    "2 0 1", "0 2", "1 0", "0  1", " 0 1", "0 1 ", "01", "0 01", "1/2", "1/2 2", "2 1/2 1", "1 1 1", "1 1", "1", "2", "1/1", "2/4", "0/1", "1/0", "/1", "1/", "1/2/3",
    "1 / 2", "-1", "+1", "1.0", "0\n1", "0\t1", "9" * 1000, "28 " * 333, "far 0", "far 449", "far 450", "far 00", "far", "far 0 0", "near 1\nfar 0",
    "drop", "drop\n", "\ndrop", "drop ", "drop\rdrop", "drop\n\ndrop", "\n".join(["drop"] * 12), "\n".join(["drop"] * 13), "about\nover", "add 0 1/2",
    "add 0 2/4", "add 0 1/1", "add 0 2", "add 29 1000/999", "add 29 1001/999", "add 30 1", "add 0", "scale 1 2", "scale 1/2 1", "put 449", "put 450",
    "watch 29", "watch 30", "none", "none 0", "far 0\r\ndrop", "FAR 0", "put \n0",
    Spanned.ones(3, (0, 1, 0)), Spanned(3, (1, 0, 1), ((1, 2), (2, 1), (1, 2))), Spanned(2, (), ()), Bench(STATE), Bench((1, (), (), 0, 0)),
    (Bench(STATE),), [Spanned(2, (), ())], (Spanned.ones(3, (0, 1, 0)), 0), (0, Bench(STATE)), ("far", Bench(STATE)), (3, Spanned.ones(3, (0, 1, 0)), ()),
    nested(30, (), 1), nested(30, 0, 2), nested(30, None, 500), [nested(29, "x", 3)], (0, nested(29, 0, 2)),
    nested(2, 0, 500), (3, nested(29, 0, 2)), (nested(29, 0, 2), 0), ("far", nested(29, 0, 2)), (nested(28, 0, 2),) * 3,
    InvalidOrder("no"), TooMany(5), (InvalidOrder("no"), 0), (0, TooMany(1)), [InvalidOrder("no")],
]


def is_int(value, low, high):
    return type(value) is int and low <= value <= high


def are_ints(value, low, high):
    return type(value) is tuple and all(is_int(item, low, high) for item in value)


def right_order(value):
    return are_ints(value, 0, 29) and value != () and len(set(value)) == len(value) == max(value) + 1


def right_row(many, value):
    return are_ints(value, 0, many - 2) and len(value) <= 450


def right_pairs(many, value, size=2):
    if type(value) is not tuple:
        return False
    return all(are_ints(item, 0, many - 1) and len(item) == size and list(item) == sorted(set(item)) for item in value)


def rises(items):
    return all(items[at] < items[at + 1] for at in range(len(items) - 1))


def right_drawing(value):
    if type(value) is not tuple or len(value) != 2 or not is_int(value[0], 1, 12):
        return False
    many, columns = value
    if type(columns) is not tuple or len(columns) > 200:
        return False
    for at, column in enumerate(columns):
        if not are_ints(column, 0, many - 2) or column == ():
            return False
        if any(column[k + 1] - column[k] < 2 for k in range(len(column) - 1)):
            return False
        if at and not all(any(abs(one - other) <= 1 for other in columns[at - 1]) for one in column):
            return False
    return True


def right_sum(many, value):
    if type(value) is not tuple or len(value) > 400 or not all(type(pair) is tuple and len(pair) == 2 for pair in value):
        return False
    if not all(are_ints(powers, 0, 60) and len(powers) == many for powers, _ in value):
        return False
    return all(is_int(number, -10 ** 30, 10 ** 30) and number != 0 for _, number in value) and rises([pair[0] for pair in value])


def right_net(many, value):
    return right_pairs(many, value) and len(value) <= 120


def right_share(value):
    return type(value) is tuple and len(value) == 2 and all(type(each) is int and each >= 1 for each in value) and math.gcd(*value) == 1


def right_shares(row, value):
    return type(value) is tuple and len(value) == len(row) and all(map(right_share, value))


def right_state(value):
    if type(value) is not tuple or len(value) != 5 or not is_int(value[0], 1, 30):
        return False
    many, row, shares, spot, seat = value
    if not right_least_row(many, row) or not right_shares(row, shares):
        return False
    return is_int(spot, 0, len(row)) and is_int(seat, 0, many - 1)


def right_step(value):
    if type(value) is not tuple or not value or type(value[0]) is not str:
        return False
    word, items = value[0], value[1:]
    if word in ("far", "near", "put", "watch"):
        return len(items) == 1 and is_int(items[0], 0, 29 if word == "watch" else 449)
    if word in ("add", "scale"):
        return len(items) == 2 and is_int(items[0], 0, 29) and right_share(items[1]) and max(items[1]) <= 1000
    return word in ("drop", "about", "over") and items == ()


def right_script(value):
    return type(value) is tuple and len(value) <= 12 and all(map(right_step, value))


def led_to(many, row, start=None):
    """Return the order to which a row leads, step by step."""
    things = list(range(many)) if start is None else list(start)
    for at in row:
        things[at:at + 2] = [things[at + 1], things[at]]
    return tuple(things)


def pairs_over(order):
    """Return the sorted list of all overtakings."""
    places = {thing: place for place, thing in enumerate(order)}
    return [(a, b) for a in range(len(order)) for b in range(a + 1, len(order)) if places[b] < places[a]]


def least(many, row):
    return len(pairs_over(led_to(many, row))) == len(row)


def right_least_row(many, value):
    return right_row(many, value) and least(many, value)


def flat(drawing):
    return tuple(exchange for column in drawing[1] for exchange in column)


def right_least_drawing(value):
    return right_drawing(value) and least(value[0], flat(value))


def is_plain(value, depth):
    """Tell whether any value is an integer, or a tuple of integers and tuples, nested at most so deep."""
    if type(value) is int:
        return True
    return type(value) is tuple and depth > 0 and all(is_plain(item, depth - 1) for item in value)


def is_among(value, depth, told):
    """Tell whether any value is one of these, True and False being no integers."""
    return is_plain(value, depth) and value in told


def all_orders(many):
    return list(itertools.permutations(range(many)))


@functools.lru_cache(None)
def all_rows(order):
    """Return the tuple of all least rows of an order, from their ends on."""
    rows = []
    for at in range(len(order) - 1):
        if order[at] > order[at + 1]:
            behind = order[:at] + (order[at + 1], order[at]) + order[at + 2:]
            rows += [row + (at,) for row in all_rows(behind)]
    return tuple(sorted(rows)) if rows else ((),)


def laid(many, row):
    """Return the list of the squares of a row's steps."""
    squares = []
    for at, exchange in enumerate(row):
        order = led_to(many, row[:at])
        squares.append((tuple(sorted(order[:exchange])), *sorted(order[exchange:exchange + 2])))
    return squares


@functools.lru_cache(None)
def all_layings(order):
    """Return the ascending tuple of all layings of an order."""
    return tuple(sorted({tuple(sorted(laid(len(order), row))) for row in all_rows(order)}))


def right_laying(order, value):
    return is_among(value, 3, all_layings(order))


def all_sixes(many, laying):
    """Return the ascending list of the sixes of a laying, looked for among all points and things."""
    found = []
    for size in range(many - 2):
        for base in itertools.combinations(range(many), size):
            others = [thing for thing in range(many) if thing not in base]
            found += [(base, *three) for three in itertools.combinations(others, 3) if has_six(laying, base, *three)]
    return sorted(found)


def has_six(laying, base, x, y, z):
    low = {(base, x, y), (base, y, z), (tuple(sorted([*base, y])), x, z)}
    high = {(base, x, z), (tuple(sorted([*base, x])), y, z), (tuple(sorted([*base, z])), x, y)}
    return low <= set(laying) or high <= set(laying)


def right_shape(value):
    return are_ints(value, 1, 450) and sum(value) <= 450 and list(value) == sorted(value, reverse=True)


def right_cell(shape, value):
    return are_ints(value, 0, 450) and value in [(line, spot) for line, long in enumerate(shape) for spot in range(long)]


def right_rising(value):
    if type(value) is not tuple or not all(are_ints(line, 0, 10 ** 6) for line in value):
        return False
    if not right_shape(tuple(len(line) for line in value)):
        return False
    columns = [[line[spot] for line in value if spot < len(line)] for spot in range(len(value[0]))] if value else []
    return all(map(rises, value)) and all(map(rises, columns))


def right_table(value):
    return right_rising(value) and sorted(sum(value, ())) == list(range(len(sum(value, ()))))


def shape_of(table):
    return tuple(map(len, table))


def put_in(lines, item, exchanges=False):
    """Put a thing, or an exchange, into lists; return the cell that came."""
    for at in range(len(lines) + 1):
        if at == len(lines):
            lines.append([])
        line = lines[at]
        greater = [other for other in line if other > item]
        if exchanges and {item, item + 1} <= set(line):
            item = item + 1
        elif greater:
            line[line.index(min(greater))], item = item, min(greater)
        else:
            line.append(item)
            return (at, len(line) - 1)


def tables_made(items, exchanges=False):
    """Return the pair of the tables that come of things, or of exchanges."""
    left, right = [], []
    for number, item in enumerate(items):
        line, _ = put_in(left, item, exchanges)
        right = right + [[]] if line == len(right) else right
        right[line].append(number)
    return tuple(map(tuple, left)), tuple(map(tuple, right))


@functools.lru_cache(None)
def all_lefts(many):
    """Return the dict of all left tables of so many things, each with its order."""
    return {tables_made(row, True)[0]: order for order in all_orders(many) for row in all_rows(order)}


def right_lots(order, value, falling=False):
    if type(value) is not tuple or not all(are_ints(lot, 0, len(order) - 1) and lot for lot in value):
        return False
    every = [thing for lot in value for thing in lot]
    if len(set(every)) != len(every):
        return False
    return all(
        rises([order.index(thing) for thing in lot]) and rises(lot[::-1] if falling else lot) for lot in value
    )
