"""Smooth orders, how many orders are strongly below one, and step polynomials."""

from wiredorders.codes import orders
from wiredorders.orders import check_most, check_order, check_orders, order_after
from wiredorders.overtakings import falls_in, overtakings_in
from wiredorders.strongly import first_above

MOST_SUMMED = 6


def is_smooth(order):
    """Tell whether no four things of an order stand as those of (2, 3, 0, 1) or of (3, 1, 2, 0) do."""
    check_order(order)
    many = len(order)
    for second in range(1, many):
        for third in range(second + 1, many):
            if is_rough_about(order, second, third):
                return False
    return True


def is_rough_about(order, second, third):
    """Tell whether there are a first and a fourth thing with which two stand as told."""
    b, c = order[second], order[third]
    ahead, behind = order[:second], order[third + 1:]
    if b < c:
        return any([thing > c for thing in ahead]) and any([thing < b for thing in behind])
    highest = max([thing for thing in ahead if thing < b], default=c)
    return any([c < thing < highest for thing in behind])


def sizes_below(order):
    """Return the tuple of how many orders with 0, 1 and so on overtakings are strongly below an order."""
    check_order(order)
    check_most(len(order), MOST_SUMMED)
    counts = [0 for _ in range(len(overtakings_in(order)) + 1)]
    for other in orders(len(order)):
        if first_above(other, order) is None:
            size = len(overtakings_in(other))
            counts[size] = counts[size] + 1
    return tuple(counts)


def step_polynomial(one, other):
    """Return the step polynomial of two orders."""
    check_orders(one, other)
    check_most(len(one), MOST_SUMMED)
    return polynomial_in(one, other, {})


def polynomial_in(one, other, known):
    """Return the step polynomial of two orders, noting it in known by both.

    It comes out as () also where the one is not strongly below the other one.
    """
    falls = falls_in(other)
    if not falls:
        return (1,) if one == other else ()
    if (one, other) not in known:
        behind = order_after(one, falls[:1])
        lower = order_after(other, falls[:1])
        both = polynomial_in(behind, lower, known)
        if one[falls[0]] > one[falls[0] + 1]:
            known[(one, other)] = both
        else:
            known[(one, other)] = stepped(both, polynomial_in(one, lower, known))
    return known[(one, other)]


def stepped(both, lower):
    """Return x times the one polynomial, and x - 1 times the other one, added."""
    length = 1 + max(len(both), len(lower))
    wide = both + (0,) * (length - len(both))
    other = lower + (0,) * (length - len(lower))
    sums = [-other[0]] + [wide[at - 1] + other[at - 1] - other[at] for at in range(1, length)]
    while sums and sums[-1] == 0:
        sums.pop()
    return tuple(sums)
