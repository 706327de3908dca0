"""The weak order of all orders: which are below which, meets and joins."""

from wiredorders.orders import check_order, check_orders, order_after
from wiredorders.overtakings import order_with_pairs, overtakings_in


def is_weakly_below(one, other):
    """Tell whether the one order is weakly below the other one."""
    check_orders(one, other)
    return first_paper(one, other) is None


def weak_paper(one, other):
    """Return the first overtaking of the one order that the other one does not have, or None."""
    check_orders(one, other)
    return first_paper(one, other)


def first_paper(one, other):
    """Return the first overtaking of the one order that the other one does not have, or None."""
    held = {pair: True for pair in overtakings_in(other)}
    lacking = [pair for pair in overtakings_in(one) if pair not in held]
    return lacking[0] if lacking else None


def weak_meet(one, other):
    """Return the weak meet of two orders: turning all about makes it a join."""
    check_orders(one, other)
    return join_in(one[::-1], other[::-1])[::-1]


def weak_join(one, other):
    """Return the weak join of two orders."""
    check_orders(one, other)
    return join_in(one, other)


def join_in(one, other):
    """Return the order with the overtakings of both, and with all that follow from these."""
    many = len(one)
    held = {pair: True for pair in overtakings_in(one) + overtakings_in(other)}
    for b in range(many):
        lesser = [a for a in range(b) if (a, b) in held]
        greater = [c for c in range(b + 1, many) if (b, c) in held]
        for a in lesser:
            for c in greater:
                held[(a, c)] = True
    return order_with_pairs(many, list(held))


def weak_steps(order):
    """Return the ascending list of all orders to which a weak step up leads."""
    check_order(order)
    return sorted(steps_up(order))


def steps_up(order):
    """Return the list of all orders to which a weak step up leads."""
    rises = [place for place in range(len(order) - 1) if order[place] < order[place + 1]]
    return [order_after(order, (place,)) for place in rises]
