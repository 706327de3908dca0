"""The least rows of an order, in ascending order."""

from wiredorders.common import is_integer
from wiredorders.errors import InvalidNumber, InvalidRow
from wiredorders.orders import check_most, check_order, is_row_in, opposite_in, order_in, renamed_in
from wiredorders.overtakings import falls_in, is_least_in

MOST_COUNTED = 7
MOST_LISTED = 5


def row_begins(order):
    """Return the ascending list of all exchanges with which least rows of an order begin."""
    check_order(order)
    return begins_in(order)


def begins_in(order):
    """Return the exchanges whose greater thing stands ahead of the lesser one.

    A row without its first exchange leads to the order in which these two
    things have changed places.
    """
    return falls_in(opposite_in(order))


def first_row(order):
    """Return the first least row of an order."""
    check_order(order)
    return row_choosing(order, 0)


def last_row(order):
    """Return the last least row of an order."""
    check_order(order)
    return row_choosing(order, -1)


def row_choosing(order, choice):
    """Return the least row that begins, ever again, with the first or the last exchange possible."""
    row = []
    begins = begins_in(order)
    while begins:
        row.append(begins[choice])
        order = renamed_in(order, begins[choice])
        begins = begins_in(order)
    return tuple(row)


def count_rows(order):
    """Return how many least rows an order has."""
    check_order(order)
    check_most(len(order), MOST_COUNTED)
    return count_in(order, {})


def count_in(order, counts):
    """Return how many least rows an order has, noting this in counts by the order."""
    if order not in counts:
        begins = begins_in(order)
        rest = [count_in(renamed_in(order, exchange), counts) for exchange in begins]
        counts[order] = sum(rest) if begins else 1
    return counts[order]


def row_with(order, number):
    """Return the least row of an order that has this number."""
    check_order(order)
    if not is_integer(number) or number < 0:
        raise InvalidNumber("not an integer from 0 on")
    check_most(len(order), MOST_COUNTED)
    counts = {}
    if number >= count_in(order, counts):
        raise InvalidNumber("there are not so many least rows")
    return row_numbered(order, number, counts)


def row_numbered(order, number, counts):
    """Return the least row with a number, all counts being noted."""
    row = []
    begins = begins_in(order)
    while begins:
        at = 0
        rest = renamed_in(order, begins[at])
        while number >= counts[rest]:
            number = number - counts[rest]
            at = at + 1
            rest = renamed_in(order, begins[at])
        row.append(begins[at])
        order = rest
        begins = begins_in(order)
    return tuple(row)


def row_number_of(order, row):
    """Return the number of a least row of an order."""
    check_order(order)
    if not is_row_of(order, row):
        raise InvalidRow("not a least row of the order")
    check_most(len(order), MOST_COUNTED)
    counts = {}
    number = 0
    for exchange in row:
        ahead = [begin for begin in begins_in(order) if begin < exchange]
        number = number + sum([count_in(renamed_in(order, begin), counts) for begin in ahead])
        order = renamed_in(order, exchange)
    return number


def is_row_of(order, value):
    """Tell whether any value is a least row of an order."""
    many = len(order)
    return is_row_in(many, value) and order_in(many, value) == order and is_least_in(many, value)


def rows_of(order):
    """Return the ascending list of all least rows of an order."""
    check_order(order)
    check_most(len(order), MOST_LISTED)
    return rows_in(order)


def rows_in(order):
    """Return the ascending list of all least rows of an order."""
    begins = begins_in(order)
    if not begins:
        return [()]
    return [(begin,) + rest for begin in begins for rest in rows_in(renamed_in(order, begin))]
