"""Ways of strong steps up from order to order, and what lies between and above."""

from wiredorders.codes import orders
from wiredorders.common import all_reached
from wiredorders.orders import check_most, check_orders
from wiredorders.overtakings import overtakings_in
from wiredorders.strongly import exchanged, first_above, strong_drops_in, strong_steps_in

MOST_BETWEEN = 6


def strong_way(one, other):
    """Return any tuple of orders, each but the first a strong step up, from the one to the other one, or None."""
    check_orders(one, other)
    if first_above(one, other) is not None:
        return None
    way = [one]
    while way[-1] != other:
        way.append(step_towards(way[-1], other))
    return tuple(way)


def step_towards(order, aim):
    """Return an order one strong step up that is still strongly below the aim.

    At the first place that differs, the first further thing comes that is
    greater than the one there, but not than the aim's.
    """
    place = [at for at in range(len(order)) if order[at] != aim[at]][0]
    late = [at for at in range(place + 1, len(order)) if order[place] < order[at] <= aim[place]][0]
    return exchanged(order, place, late)


def strongly_between(one, other):
    """Return the ascending list of all orders strongly between, both ends too."""
    check_orders(one, other)
    check_most(len(one), MOST_BETWEEN)
    return sorted(between_in(one, other))


def between_in(one, other):
    """Return the list of all orders strongly between, both ends too, each behind those from which it is reached."""
    if first_above(one, other) is not None:
        return []
    return all_reached(
        one, lambda order: [higher for higher in strong_steps_in(order) if first_above(higher, other) is None],
    )


def count_strong_ways(one, other):
    """Return how many tuples of strong steps up lead from the one order to the other one."""
    check_orders(one, other)
    check_most(len(one), MOST_BETWEEN)
    ways = {order: 0 for order in between_in(one, other)}
    if not ways:
        return 0
    ways[one] = 1
    for order in list(ways):
        for higher in strong_steps_in(order):
            if higher in ways:
                ways[higher] = ways[higher] + ways[order]
    return ways[other]


def least_above(one, other):
    """Return the ascending list of the least orders that both are strongly below."""
    check_orders(one, other)
    check_most(len(one), MOST_BETWEEN)
    every = orders(len(one))
    above = [order for order in every if first_above(one, order) is None and first_above(other, order) is None]
    known = {order: True for order in above}
    return [order for order in above if not any([lower in known for lower in strong_drops_in(order)])]


def strong_signed(one, other):
    """Return the signed number of both for strong ones: their sizes tell it."""
    check_orders(one, other)
    if first_above(one, other) is not None:
        return 0
    steps = len(overtakings_in(other)) - len(overtakings_in(one))
    return 1 if steps & 1 == 0 else -1
