"""Any values, and plain rules, written apart from the program, of which of them are right."""

from wiredorders.errors import InvalidOrder, TooMany

BIG = int("9" * 120)


def nested(depth, inside, width):
    """Return tuples in tuples; written out, they would have width ** depth items."""
    for _ in range(depth):
        inside = (inside,) * width
    return inside


ANY = [
    None, True, False, 0, 1, 2, 3, 4, 5, 6, 7, 12, 13, 29, 30, 31, 199, 200, 449, 450, -1, -2, -30, BIG, -BIG,
    10 ** 30, 10 ** 30 + 1, -10 ** 30 - 1,
    "", "0", "far", "near", "0 1", "a\nb", "x" * 1000,
    [], [0], [0, 1], [1, 0], [(0, 1)], [()], [[0, 1]], [None], [-1], [[0, 1], [1, 0]], [BIG],
    (), (0,), (1,), (2,), (0, 0), (0, 1), (1, 0), (1, 1), (0, 2), (2, 0), (1, 2), (-1, 0), (0, -1), (0, BIG), (-BIG,),
    (0, 1, 2), (2, 1, 0), (0, 1, 0), (1, 0, 1), (2, 0, 1), (1, 1, 0), (0, 1, 3), (0, 0, 0), (1, 0, 3, 2), (3, 0, 4, 1, 2),
    (True,), (False,), (True, False), (False, True), (0, True), (True, 0), (2, True, 0), (0, None), (None,), ("0",), ("0", "1"),
    ("far", 0), ("near", 0), ("far", True), ("near", False), ("far", -1), ("near", BIG), ("far",), ("far", 0, 0), ["far", 0],
    ("near", 1), ("far", 1), ("far", "0"), ("far", None), (0, "far"), ("", 0), (("far", 0),), (("near", 0),), (["near", 0],),
    ((),), ((), ()), ((0,),), ((0, 1),), ([0, 1],), ((0, 1), (0, 2)), ((0, 2), (0, 1)), ((0, 1), (0, 1)), ((1, 0),),
    ((0, 2), (1, 2)), ((1, 2), (0, 2)), ((0, 1), (0, 2), (1, 2)), ((0, 1), (1, 2)), ((0, 1, 2),), ((2, 1, 0),), ((0, True),),
    ((False, 1),), ((False, 2), (1, 2)), ((0, 1, 2), (0, 1, 2)), ((0, 1, 2), (0, 1, 3)), ((0, 1, True),), ([0, 1, 2],), ((0, 1), 2),
    ((0, 1), None), ((0, 0),), ((0, 1), (2, 2)), ((0, 1), "x"), ((0, BIG),), ((-1, 0),),
    (1, ()), (2, ()), (2, ((0,),)), (2, ((0,), (0,))), (3, ((0,), (1,), (0,))), (3, ((1,), (0,), (1,))), (3, ((0, 1),)),
    (3, ((0,), ())), (3, [(0,)]), (3, ([0],)), [3, ((0,),)], (True, ()), (2, ((False,),)), (13, ()), (0, ()), (3, ((2,),)),
    (4, ((0, 2),)), (4, ((2, 0),)), (4, ((0,), (2,))), (4, ((0, 2), (1,), (0, 2), (1,))), (4, ((0, 0),)), (3, ()), (3, (), ()),
    (3, None), (3, 0), (3, ((-1,),)), (3, ((0,), 1)), (3, "01"), (12, ()), (12, ((10,),)), (12, ((11,),)),
    ((), (0,)), ((), (1,), (0, 1)), ((), (0,), (0, 1)), ((), (0,), (1,)), ((), (0,), (1, 0)), ((), (True,), (0, 1)), [(), (0,)],
    ((), [0]), ((), (0,), (0, 1), (0, 1, 2)), ((), (0,), (0, 0)), ((0,), (0, 1)), ((), (0, 1)), ((), (0,), (1, 2), (0, 1, 2)),
    tuple(range(30)), tuple(range(31)), tuple(range(29, -1, -1)), list(range(30)), tuple(range(500)), (0,) * 450, (0,) * 451,
    (0,) * 500, [0] * 500, (0, 1) * 100, ((),) * 500, ((0, 1),) * 500, (28,) * 450, (29,), (28,), (0,) * 30, (0,) * 31,
    (0, False), (False, 0), (True, True), (1, True), (False, False), [(4,)], ((4, 5),), [(3,)], [(0,), (0,)], [(0, 4)], ((5,),),
    (0, 1, 0, 1, 1), (1, 0, 1, 0, 0), (0, 0, 0, 1, 0), (0, 1, 0, 0, 0),
    nested(30, (), 1), nested(30, 0, 2), nested(30, None, 500), [nested(29, "x", 3)], (0, nested(29, 0, 2)),
    nested(2, 0, 500), (3, nested(29, 0, 2)), (nested(29, 0, 2), 0), ("far", nested(29, 0, 2)), (nested(28, 0, 2),) * 3,
    InvalidOrder("no"), TooMany(5), (InvalidOrder("no"), 0), (0, TooMany(1)), [InvalidOrder("no")],
]


def is_int(value, low, high):
    return type(value) is int and low <= value <= high


def are_ints(value, low, high):
    return type(value) is tuple and all(is_int(item, low, high) for item in value)


def right_order(value):
    return are_ints(value, 0, 29) and value != () and len(set(value)) == len(value) == max(value) + 1


def right_row(many, value):
    return are_ints(value, 0, many - 2) and len(value) <= 450


def right_pairs(many, value, size=2):
    if type(value) is not tuple:
        return False
    return all(are_ints(item, 0, many - 1) and len(item) == size and list(item) == sorted(set(item)) for item in value)


def rises(items):
    return all(items[at] < items[at + 1] for at in range(len(items) - 1))


def right_drawing(value):
    if type(value) is not tuple or len(value) != 2 or not is_int(value[0], 1, 12):
        return False
    many, columns = value
    if type(columns) is not tuple or len(columns) > 200:
        return False
    for at, column in enumerate(columns):
        if not are_ints(column, 0, many - 2) or column == ():
            return False
        if any(column[k + 1] - column[k] < 2 for k in range(len(column) - 1)):
            return False
        if at and not all(any(abs(one - other) <= 1 for other in columns[at - 1]) for one in column):
            return False
    return True


def led_to(many, row, start=None):
    """Return the order to which a row leads, step by step."""
    things = list(range(many)) if start is None else list(start)
    for at in row:
        things[at:at + 2] = [things[at + 1], things[at]]
    return tuple(things)


def pairs_over(order):
    """Return the sorted list of all overtakings."""
    places = {thing: place for place, thing in enumerate(order)}
    return [(a, b) for a in range(len(order)) for b in range(a + 1, len(order)) if places[b] < places[a]]


def least(many, row):
    return len(pairs_over(led_to(many, row))) == len(row)


def right_least_row(many, value):
    return right_row(many, value) and least(many, value)


def flat(drawing):
    return tuple(exchange for column in drawing[1] for exchange in column)


def right_least_drawing(value):
    return right_drawing(value) and least(value[0], flat(value))
