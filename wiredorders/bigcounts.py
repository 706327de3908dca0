"""How many orders there are of some kinds, also of very many things."""

from math import comb

from wiredorders.common import is_group, is_within
from wiredorders.errors import InvalidMany, InvalidNumber, InvalidPlaces
from wiredorders.orders import check_many

MOST_SIZE = 25
MOST_LESS = 12
MOST_FALLS = 25
MOST_UNSTILL = 2000


def count_falls_at(many, places):
    """Return how many orders of so many things have just these falls."""
    check_many(many)
    if not isinstance(places, tuple) or not is_group(places, len(places), many - 2):
        raise InvalidPlaces("not an ascending tuple of places but the last one")
    # How many begin so, by how many of the things so far are less than the last one.
    counts = [1]
    for place in range(many - 1):
        if place in places:
            counts = [sum(counts[lesser:]) for lesser in range(len(counts) + 1)]
        else:
            counts = [sum(counts[:lesser]) for lesser in range(len(counts) + 1)]
    return sum(counts)


def check_things(value):
    """Raise InvalidMany for any value that is no integer from 1 to 10 ** 30."""
    if not is_within(value, 1, 10 ** 30):
        raise InvalidMany("not an integer from 1 to 10 ** 30")


def check_number(value, low, high):
    """Raise InvalidNumber for any value that is no integer from low to high."""
    if not is_within(value, low, high):
        raise InvalidNumber("not a number within the bounds")


def count_sized(things, size):
    """Return how many orders of so many things have so many overtakings.

    It is the number with x ** size in the product of 1 + x + ... + x ** (k - 1)
    for each k up to the number of things: that is of 1 - x ** k for each, times
    1 / (1 - x) as often.
    """
    check_things(things)
    check_number(size, 0, MOST_SIZE)
    numbers = [1] + [0 for _ in range(size)]
    for power in range(1, min(things, size) + 1):
        numbers = [numbers[at] - (numbers[at - power] if at >= power else 0) for at in range(size + 1)]
    return sum([number * comb(things + size - at - 1, size - at) for at, number in enumerate(numbers)])


def count_ringed(things, less):
    """Return how many orders of so many things have so many rings less than things.

    So many things and rings more than these are in rings of two things at
    least; each choice of these things is told by the others' being still.
    """
    check_things(things)
    check_number(less, 0, MOST_LESS)
    counts = ring_counts(less)
    return sum([comb(things, less + rings) * counts[rings] for rings in range(less + 1)])


def ring_counts(less):
    """Return the list of how many orders of less + k things have k rings, each of two things at least, for each k.

    The greatest thing comes behind another one in a ring, or makes a ring with
    one.
    """
    counts = [1]
    for each in range(1, less + 1):
        wide = counts + [0]
        counts = [0] + [(each + rings - 1) * (wide[rings] + wide[rings - 1]) for rings in range(1, each + 1)]
    return counts


def falls_rest(things, falls, modulus):
    """Return what the number of the orders of so many things with so many falls leaves by a modulus.

    To part the things into so many lots and one more, each ascending, in order,
    gives each order with so many falls or fewer; those with fewer go off in
    turn.
    """
    check_things(things)
    check_number(falls, 0, MOST_FALLS)
    check_number(modulus, 1, 10 ** 12)
    rest = 0
    for off in range(falls + 1):
        ways = comb(things + 1, off) * power_rest(falls + 1 - off, things, modulus)
        rest = rest + ways if off % 2 == 0 else rest - ways
    return rest % modulus


def power_rest(base, exponent, modulus):
    """Return what a power leaves by a modulus, the exponent being taken bit by bit."""
    rest = 1 % modulus
    square = base % modulus
    left = exponent
    while left > 0:
        if left & 1 == 1:
            rest = rest * square % modulus
        square = square * square % modulus
        left = left >> 1
    return rest


def unstill_rest(things, modulus):
    """Return what the number of the orders with no thing at its own place leaves by a modulus.

    With n things there are n times as many as with one fewer, and 1 more or
    less: by the modulus this begins anew each time that it divides n, with
    the other sign if it is odd.
    """
    check_things(things)
    check_number(modulus, 1, MOST_UNSTILL)
    count = 1
    for each in range(1, things % modulus + 1):
        count = (each * count + (1 if each % 2 == 0 else -1)) % modulus
    turned = things // modulus * modulus
    return (count if turned % 2 == 0 else -count) % modulus
