"""Ways of weak steps up from order to order, and what lies between."""

from wiredorders.blocks import blocks_in
from wiredorders.common import all_reached, count_successions
from wiredorders.leastrows import count_in
from wiredorders.orders import check_most, check_order, check_orders, led_in, opposite_in, order_after
from wiredorders.overtakings import falls_in, overtakings_in
from wiredorders.weakly import first_paper, steps_up

MOST_BETWEEN = 6
MOST_BELOW = 12


def weak_way(one, other):
    """Return any row by which weak steps up lead from the one order to the other one, or None."""
    check_orders(one, other)
    if first_paper(one, other) is not None:
        return None
    aim = {pair: True for pair in overtakings_in(other)}
    order = one
    row = []
    while order != other:
        pairs = [(order[place], order[place + 1]) for place in range(len(order) - 1)]
        place = [at for at, pair in enumerate(pairs) if pair in aim][0]
        order = order_after(order, (place,))
        row.append(place)
    return tuple(row)


def weakly_between(one, other):
    """Return the ascending list of all orders weakly between, both ends too."""
    check_orders(one, other)
    check_most(len(one), MOST_BETWEEN)
    if first_paper(one, other) is not None:
        return []
    return sorted(all_reached(
        one, lambda order: [higher for higher in steps_up(order) if first_paper(higher, other) is None],
    ))


def way_between(one, other):
    """Return the order whose least rows lead from the one order to the other one."""
    return led_in(opposite_in(one), other)


def count_weak_ways(one, other):
    """Return how many rows of weak steps up lead from the one order to the other one."""
    check_orders(one, other)
    check_most(len(one), MOST_BETWEEN)
    return count_in(way_between(one, other), {}) if first_paper(one, other) is None else 0


def count_weakly_below(order):
    """Return how many orders are weakly below an order.

    In those, a thing stands behind all lesser ones that stand ahead of it in
    the order.
    """
    check_order(order)
    check_most(len(order), MOST_BELOW)
    needed = []
    for place, thing in enumerate(order):
        bits = 0
        for ahead in range(place):
            if order[ahead] < thing:
                bits = bits | (1 << ahead)
        needed.append(bits)
    return count_successions(needed)


def weak_signed(one, other):
    """Return the signed number of both for weak ones.

    It is not 0 just if the order between is blocks each of which is a last
    order; its falls then tell it.
    """
    check_orders(one, other)
    way = way_between(one, other)
    turned = [block == tuple(reversed(range(len(block)))) for block in blocks_in(way)]
    if first_paper(one, other) is not None or not all(turned):
        return 0
    return 1 if len(falls_in(way)) & 1 == 0 else -1
