"""Sixes of layings and their turning, and the high triples of a laying."""

from wiredorders.common import fewest_steps
from wiredorders.errors import InvalidSix
from wiredorders.layings import check_laying, is_based, laying_in
from wiredorders.orders import check_most, check_order
from wiredorders.triples import is_lot_in, row_late, triples_in

MOST_LED = 5


def sixes(order, laying):
    """Return the ascending list of all sixes that a laying has low or high."""
    check_order(order)
    check_laying(order, laying)
    return sixes_in(laying)


def sixes_in(laying):
    """Return the ascending list of all sixes of a laying, found by the squares with their outer things."""
    squares = {square: True for square in laying}
    found = []
    for base, x, z in laying:
        for y in range(x + 1, z):
            six = (tuple([thing for thing in base if thing != y]), x, y, z)
            needed = low_squares(six) if y in base else high_squares(six)
            if all([square in squares for square in needed]):
                found.append(six)
    return sorted(found)


def low_squares(six):
    """Return the list of the squares by which a laying has a six low."""
    base, x, y, z = six
    return [(base, x, y), (base, y, z), (point_with(base, y), x, z)]


def high_squares(six):
    """Return the list of the squares by which a laying has a six high."""
    base, x, y, z = six
    return [(base, x, z), (point_with(base, x), y, z), (point_with(base, z), x, y)]


def point_with(base, thing):
    """Return the point with one thing more."""
    return tuple(sorted(base + (thing,)))


def six_turned(order, laying, six):
    """Return a laying with a six turned."""
    check_order(order)
    check_laying(order, laying)
    if not is_based(six, 3, len(order) - 1) or six not in sixes_in(laying):
        raise InvalidSix("not a six of the laying")
    return turned_in(laying, six)


def turned_in(laying, six):
    """Return a laying with one of its sixes turned."""
    low, high = low_squares(six), high_squares(six)
    old, new = (low, high) if low[0] in laying else (high, low)
    return tuple(sorted([square for square in laying if square not in old] + new))


def high_triples(order, laying):
    """Return the ascending list of all high triples of a laying."""
    check_order(order)
    check_laying(order, laying)
    bases = {(x, z): base for base, x, z in laying}
    return [(x, y, z) for x, y, z in triples_in(order) if y not in bases[(x, z)]]


def laying_high(order, triples):
    """Return the laying of an order whose high triples are just those of any value, or None.

    A triple is high just if its greater two things change places ahead of its
    lesser two: if it is late.
    """
    check_order(order)
    if not is_lot_in(order, triples):
        return None
    row = row_late(order, triples)
    return None if row is None else laying_in(len(order), row)


def turns_between(order, laying, other):
    """Return any tuple of as few sixes as can be whose turnings lead from the one laying to the other one."""
    check_order(order)
    check_laying(order, laying)
    check_laying(order, other)
    check_most(len(order), MOST_LED)
    return tuple(fewest_steps(laying, other, turnings_in))


def turnings_in(laying):
    """Return the list of the sixes of a laying, each with the laying with it turned."""
    return [(six, turned_in(laying, six)) for six in sixes_in(laying)]
