"""Overtakings and falls of an order, and which rows are least."""

from wiredorders.common import are_ascending, are_groups
from wiredorders.errors import InvalidPairs
from wiredorders.orders import check_many, check_order, check_row, order_in


def overtakings(order):
    """Return the ascending list of all overtakings."""
    check_order(order)
    return overtakings_in(order)


def overtakings_in(order):
    """Return the ascending list of the pairs whose greater thing stands ahead."""
    many = len(order)
    pairs = [(order[late], order[early]) for early in range(many) for late in range(early + 1, many)]
    return sorted([pair for pair in pairs if pair[0] < pair[1]])


def size_of(order):
    """Return how many overtakings an order has."""
    check_order(order)
    return len(overtakings_in(order))


def falls(order):
    """Return the ascending list of all falls."""
    check_order(order)
    return falls_in(order)


def falls_in(order):
    """Return the places whose thing is greater than the next place's."""
    return [place for place in range(len(order) - 1) if order[place] > order[place + 1]]


def are_overtakings(many, value):
    """Tell whether any value is an ascending tuple of just the overtakings of some order."""
    check_many(many)
    return are_overtakings_in(many, value)


def are_overtakings_in(many, value):
    """Tell likewise, many being right."""
    if not are_groups(value, 2, many - 1) or not are_ascending(value):
        return False
    return overtakings_in(order_with_pairs(many, value)) == list(value)


def order_by(many, pairs):
    """Return the order that has just these overtakings."""
    check_many(many)
    if not are_overtakings_in(many, pairs):
        raise InvalidPairs("not the overtakings of an order")
    return order_with_pairs(many, pairs)


def order_with_pairs(many, pairs):
    """Return the order in which each thing stands ahead of as many lesser ones as pairs tell.

    If the unlike pairs are the overtakings of some order, it is this one.
    """
    lesser = [0 for _ in range(many)]
    for pair in pairs:
        lesser[pair[1]] = lesser[pair[1]] + 1
    things = []
    for thing in range(many):
        things.insert(thing - lesser[thing], thing)
    return tuple(things)


def is_least_row(many, row):
    """Tell whether a row is a least one."""
    check_many(many)
    check_row(many, row)
    return is_least_in(many, row)


def is_least_in(many, row):
    """Tell whether no row shorter than this one, of any length, leads where it leads."""
    return len(overtakings_in(order_in(many, row))) == len(row)


def some_row(order):
    """Return any least row of an order."""
    check_order(order)
    things = list(order)
    back = []
    for end in reversed(range(len(order))):
        for place in range(end):
            if things[place] > things[place + 1]:
                things[place], things[place + 1] = things[place + 1], things[place]
                back.append(place)
    return tuple(back[::-1])
