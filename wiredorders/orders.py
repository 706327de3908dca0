"""Orders of things, exchanges of neighbours, and rows of exchanges.

The functions named check_.. raise the error that fits; those named .._in
take only what has been checked.
"""

from wiredorders.common import are_within, is_within
from wiredorders.errors import InvalidExchange, InvalidMany, InvalidOrder, InvalidRow, TooMany, Unlike

MOST_THINGS = 30
MOST_EXCHANGES = 450


def is_order(value):
    """Tell whether any value is an order."""
    if not are_within(value, 0, MOST_THINGS - 1):
        return False
    return len(value) > 0 and sorted(value) == list(range(len(value)))


def check_order(value):
    """Raise InvalidOrder for any value that is no order."""
    if not is_order(value):
        raise InvalidOrder("not an order")


def check_orders(one, other):
    """Raise InvalidOrder if one of two values is no order, Unlike if these have not as many things."""
    check_order(one)
    check_order(other)
    if len(one) != len(other):
        raise Unlike("the orders have not as many things")


def check_many(value):
    """Raise InvalidMany for any value that is no number of things."""
    if not is_within(value, 1, MOST_THINGS):
        raise InvalidMany("not an integer from 1 to 30")


def check_most(count, limit):
    """Raise TooMany if a count is beyond a limit."""
    if count > limit:
        raise TooMany(limit)


def check_exchange(many, value):
    """Raise InvalidExchange for any value that is no exchange of so many things."""
    if not is_within(value, 0, many - 2):
        raise InvalidExchange("not an exchange of so many things")


def is_row_in(many, value):
    """Tell whether any value is a row of exchanges of so many things, many being right."""
    return are_within(value, 0, many - 2) and len(value) <= MOST_EXCHANGES


def check_row(many, value):
    """Raise InvalidRow for any value that is no row of exchanges of so many things."""
    if not is_row_in(many, value):
        raise InvalidRow("not a row of exchanges of so many things")


def plain_order(many):
    """Return the order in which each thing stands at the place with its number."""
    check_many(many)
    return tuple(range(many))


def last_order(many):
    """Return the plain order the other way round."""
    check_many(many)
    return tuple(reversed(range(many)))


def opposite(order):
    """Return the order that has the places in the things' stead."""
    check_order(order)
    return opposite_in(order)


def opposite_in(order):
    """Return, for each thing, its place."""
    places = list(order)
    for place, thing in enumerate(order):
        places[thing] = place
    return tuple(places)


def led(one, other):
    """Return the one order led by the other one."""
    check_orders(one, other)
    return led_in(one, other)


def led_in(one, other):
    """Return the one order led by the other one, both of as many things."""
    return tuple([one[thing] for thing in other])


def turned_about(order):
    """Return the order with its things the other way round."""
    check_order(order)
    return order[::-1]


def turned_over(order):
    """Return the order in which each thing is as far from the greatest one as it was from 0."""
    check_order(order)
    return tuple([len(order) - 1 - thing for thing in order])


def swapped(order, exchange):
    """Return the order behind an exchange."""
    check_order(order)
    check_exchange(len(order), exchange)
    return order_after(order, (exchange,))


def renamed(order, exchange):
    """Return the order in which the things exchange and exchange + 1 change places."""
    check_order(order)
    check_exchange(len(order), exchange)
    return renamed_in(order, exchange)


def renamed_in(order, exchange):
    """Return the order with two things of neighbouring numbers exchanged."""
    things = list(order)
    things[order.index(exchange)] = exchange + 1
    things[order.index(exchange + 1)] = exchange
    return tuple(things)


def is_row(many, value):
    """Tell whether any value is a row of exchanges of so many things."""
    check_many(many)
    return is_row_in(many, value)


def order_behind(many, row):
    """Return the order to which a row leads by itself."""
    check_many(many)
    check_row(many, row)
    return order_in(many, row)


def order_in(many, row):
    """Return the order to which a row of any length leads from the plain one."""
    return order_after(tuple(range(many)), row)


def led_on(order, row):
    """Return the order to which a row leads from an order."""
    check_order(order)
    check_row(len(order), row)
    return order_after(order, row)


def order_after(order, row):
    """Return the order behind all exchanges of a row of any length."""
    things = list(order)
    for exchange in row:
        things[exchange], things[exchange + 1] = things[exchange + 1], things[exchange]
    return tuple(things)
