"""The strong order of all orders: which are below which, and parts of rows."""

from wiredorders.blocks import counts_in
from wiredorders.orders import check_order, check_orders, order_after
from wiredorders.rowmoves import check_least_row


def is_strongly_below(one, other):
    """Tell whether the one order is strongly below the other one."""
    check_orders(one, other)
    return first_above(one, other) is None


def strong_paper(one, other):
    """Return the first pair (places, bound) at which the other order's count is greater, or None."""
    check_orders(one, other)
    return first_above(one, other)


def first_above(one, other):
    """Return the first pair (places, bound) at which the other order's count is greater, or None."""
    counts = counts_in(one)
    for places, line in enumerate(counts_in(other)):
        for bound, count in enumerate(line):
            if count > counts[places][bound]:
                return (places, bound)
    return None


def strong_steps(order):
    """Return the ascending list of all orders to which a strong step up leads."""
    check_order(order)
    return sorted(strong_steps_in(order))


def strong_steps_in(order):
    """Return the list of all orders to which a strong step up leads."""
    many = len(order)
    pairs = [(early, late) for early in range(many) for late in range(early + 1, many)]
    return [exchanged(order, early, late) for early, late in pairs if is_step(order, early, late)]


def is_step(order, early, late):
    """Tell whether the things at two places, exchanged, make just one overtaking more."""
    low, high = order[early], order[late]
    return low < high and not any([low < thing < high for thing in order[early + 1:late]])


def exchanged(order, early, late):
    """Return the order in which the things at two places have changed places."""
    things = list(order)
    things[early], things[late] = things[late], things[early]
    return tuple(things)


def strong_drops(order):
    """Return the ascending list of all orders from which a strong step up leads to an order."""
    check_order(order)
    return sorted(strong_drops_in(order))


def strong_drops_in(order):
    """Return the list of all orders from which a strong step up leads to an order: about, they are steps up."""
    return [higher[::-1] for higher in strong_steps_in(order[::-1])]


def part_of_row(one, row):
    """Return any ascending tuple of indices of a least row whose exchanges are a least row of an order, or None.

    From the row's end on, each exchange that is a fall of what is left of the
    order is taken: if there is a part, there is one with it.
    """
    check_order(one)
    check_least_row(len(one), row)
    order = one
    part = []
    for at in reversed(range(len(row))):
        if order[row[at]] > order[row[at] + 1]:
            order = order_after(order, (row[at],))
            part.append(at)
    return tuple(part[::-1]) if order == tuple(range(len(one))) else None
