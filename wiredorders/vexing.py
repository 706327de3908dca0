"""Vexing orders, and the orders that have just one lot of pipes."""

from math import comb

from wiredorders.codes import code_in
from wiredorders.errors import NotVexing
from wiredorders.orders import check_order
from wiredorders.patterns import has_spot

BAR_OF_VEXING = (1, 0, 3, 2)
BAR_OF_ONE = (0, 2, 1)


def is_vexing(order):
    """Tell whether an order is vexing."""
    check_order(order)
    return not has_spot(order, BAR_OF_VEXING)


def check_vexing(order):
    """Raise the first error that applies, if any value is no vexing order."""
    check_order(order)
    if has_spot(order, BAR_OF_VEXING):
        raise NotVexing("the order is not vexing")


def has_one(order):
    """Tell whether just one lot of crossings is pipes of an order."""
    check_order(order)
    return not has_spot(order, BAR_OF_ONE)


def vexing_shape(order):
    """Return the shape of a vexing order."""
    check_vexing(order)
    return shape_in(order)


def shape_in(order):
    """Return the numbers of an order's code that are not 0, in descending order."""
    return tuple(sorted([count for count in code_in(order) if count > 0], reverse=True))


def vexing_flags(order):
    """Return the flags of a vexing order."""
    check_vexing(order)
    return flags_in(order)


def flags_in(order):
    """Return, in ascending order, the next place of a lesser thing, for each place that has such behind it."""
    flags = []
    for place, thing in enumerate(order):
        behind = [at for at in range(place, len(order)) if order[at] < thing]
        flags = flags + behind[:1]
    return tuple(sorted(flags))


def vexing_count(order):
    """Return the number of the pipes of a vexing order, by the determinant that tells it."""
    check_vexing(order)
    shape = shape_in(order)
    lines = range(len(shape))
    return determinant([
        [ways_to_take(shape[line] - line + column, flag) for column in lines]
        for line, flag in enumerate(flags_in(order))
    ])


def ways_to_take(count, kinds):
    """Return in how many ways so many things can be taken of some kinds, of each as often as one likes."""
    return comb(kinds + count - 1, count) if count >= 0 else 0


def determinant(rows):
    """Return the determinant of a table of integers, a list of as many lists as these have items.

    Each step clears one column; what was the corner a step ahead divides all
    that is left, so everything stays an integer. No corner comes out as 0 for
    a vexing order: the first lines of the table count tables of numbers, too,
    and each line has at least as many kinds as there are lines up to it.
    """
    corner = 1
    while rows:
        head = rows[0]
        rows = [
            [(head[0] * row[at] - row[0] * head[at]) // corner for at in range(1, len(row))]
            for row in rows[1:]
        ]
        corner = head[0]
    return corner
