"""Codes of orders, and the numbers of orders among all of as many things."""

from math import factorial

from wiredorders.common import is_within
from wiredorders.errors import InvalidCode, InvalidNumber
from wiredorders.orders import MOST_THINGS, check_many, check_most, check_order

MOST_LISTED = 7


def code(order):
    """Return, for each place, how many lesser things stand at greater places."""
    check_order(order)
    return code_in(order)


def code_in(order):
    """Return the code of an order."""
    return tuple([len([other for other in order[place:] if other < thing]) for place, thing in enumerate(order)])


def is_code(value):
    """Tell whether any value is the code of some order."""
    if not isinstance(value, tuple) or not 1 <= len(value) <= MOST_THINGS:
        return False
    last = len(value) - 1
    return all([is_within(item, 0, last - place) for place, item in enumerate(value)])


def order_with_code(value):
    """Return the order that has this code."""
    if not is_code(value):
        raise InvalidCode("not the code of an order")
    return order_coded(value)


def order_coded(counts):
    """Return the order with a code: each place takes one of the things that are left."""
    left = list(range(len(counts)))
    things = []
    for count in counts:
        things.append(left.pop(count))
    return tuple(things)


def number_of(order):
    """Return the index of an order in the ascending list of all orders of as many things."""
    check_order(order)
    number = 0
    for place, count in enumerate(code_in(order)):
        number = number * (len(order) - place) + count
    return number


def order_with(many, number):
    """Return the order of so many things that has this index."""
    check_many(many)
    if not is_within(number, 0, factorial(many) - 1):
        raise InvalidNumber("not the index of an order")
    return order_numbered(many, number)


def order_numbered(many, number):
    """Return the order with an index; its code is the number, written place by place."""
    counts = []
    for choices in range(1, many + 1):
        counts.append(number % choices)
        number = number // choices
    return order_coded(counts[::-1])


def orders(many):
    """Return the ascending list of all orders of so many things."""
    check_many(many)
    check_most(many, MOST_LISTED)
    return [order_numbered(many, number) for number in range(factorial(many))]
