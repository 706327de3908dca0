"""Rings of an order, its sign, its period and its powers."""

from math import lcm

from wiredorders.common import are_within, is_within
from wiredorders.errors import InvalidNumber, InvalidRings
from wiredorders.orders import check_many, check_order


def rings(order):
    """Return the ascending list of all rings."""
    check_order(order)
    return rings_in(order)


def rings_in(order):
    """Return the rings, each from its least thing on."""
    found = []
    met = {}
    for thing in range(len(order)):
        if thing not in met:
            ring = ring_from(order, thing)
            found.append(ring)
            for other in ring:
                met[other] = True
    return found


def ring_from(order, thing):
    """Return the ring that begins with a thing."""
    ring = [thing]
    while order[ring[-1]] != thing:
        ring.append(order[ring[-1]])
    return tuple(ring)


def sign(order):
    """Return the sign of an order."""
    check_order(order)
    even = [ring for ring in rings_in(order) if len(ring) % 2 == 0]
    return 1 if len(even) % 2 == 0 else -1


def period(order):
    """Return how often the plain order has to be led by the order to be plain again."""
    check_order(order)
    least = 1
    for ring in rings_in(order):
        least = lcm(least, len(ring))
    return least


def power(order, number):
    """Return the plain order led by the order so many times."""
    check_order(order)
    if not is_within(number, -10 ** 30, 10 ** 30):
        raise InvalidNumber("not an integer from -10 ** 30 to 10 ** 30")
    things = list(order)
    for ring in rings_in(order):
        for at, thing in enumerate(ring):
            things[thing] = ring[(at + number) % len(ring)]
    return tuple(things)


def order_with_rings(many, value):
    """Return the order of so many things whose rings any value is."""
    check_many(many)
    if not are_rings(many, value):
        raise InvalidRings("not the rings of an order")
    things = list(range(many))
    for ring in value:
        for at, thing in enumerate(ring):
            things[ring[at - 1]] = thing
    return tuple(things)


def are_rings(many, value):
    """Tell whether any value is a list or tuple of rings that have no thing twice."""
    if not isinstance(value, (list, tuple)):
        return False
    met = {}
    for ring in value:
        if not are_within(ring, 0, many - 1) or len(ring) == 0:
            return False
        for thing in ring:
            if thing in met:
                return False
            met[thing] = True
    return True
