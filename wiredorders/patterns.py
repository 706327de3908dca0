"""Patterns: where things of an order stand like those of another one."""

from wiredorders.errors import InvalidPattern, InvalidPatterns
from wiredorders.orders import check_many, check_most, check_order, is_order

MOST_THINGS_LIKE = 5
MOST_PATTERNS = 6
MOST_SPOTTED = 12
MOST_LISTED = 6
MOST_COUNTED = 7


def is_pattern(value):
    """Tell whether any value is a pattern."""
    return is_order(value) and len(value) <= MOST_THINGS_LIKE


def check_pattern(value):
    """Raise InvalidPattern for any value that is no pattern."""
    if not is_pattern(value):
        raise InvalidPattern("not an order of 1 to 5 things")


def check_patterns(value):
    """Raise InvalidPatterns for any value that is no tuple of 1 to 6 patterns."""
    if not isinstance(value, tuple) or not 1 <= len(value) <= MOST_PATTERNS:
        raise InvalidPatterns("not a tuple of 1 to 6 patterns")
    if not all([is_pattern(pattern) for pattern in value]):
        raise InvalidPatterns("not a tuple of patterns")


def spots(order, pattern):
    """Return the ascending list of all spots of a pattern in an order."""
    return all_spots(order, pattern)


def count_spots(order, pattern):
    """Return how many spots of a pattern an order has."""
    return len(all_spots(order, pattern))


def all_spots(order, pattern):
    """Return the ascending list of all spots of a pattern, or raise the first error that applies."""
    check_order(order)
    check_pattern(pattern)
    check_most(len(order), MOST_SPOTTED)
    found = [()]
    for _ in pattern:
        found = [longer for spot in found for longer in spots_behind(order, pattern, spot)]
    return found


def spots_behind(order, pattern, spot):
    """Return the list of the spots of a pattern's first things, one more than those of a spot, that begin with this.

    Only those come that leave places enough for the pattern's other things.
    """
    many = len(spot)
    lesser = [order[place] for place, thing in zip(spot, pattern) if thing < pattern[many]]
    greater = [order[place] for place, thing in zip(spot, pattern) if thing > pattern[many]]
    low, high = max(lesser, default=-1), min(greater, default=len(order))
    places = range(spot[-1] + 1 if spot else 0, len(order) - len(pattern) + many + 1)
    return [spot + (place,) for place in places if low < order[place] < high]


def has_pattern(order, pattern):
    """Tell whether an order has a pattern."""
    check_order(order)
    check_pattern(pattern)
    return has_spot(order, pattern)


def has_spot(order, pattern):
    """Tell whether there is a spot of a pattern in an order."""
    left = [()]
    while left:
        spot = left.pop()
        if len(spot) == len(pattern):
            return True
        left.extend(spots_behind(order, pattern, spot))
    return False


def orders_without(many, patterns):
    """Return the ascending list of all orders of so many things that have none of some patterns."""
    check_many(many)
    check_patterns(patterns)
    check_most(many, MOST_LISTED)
    return sorted(free_orders(many, patterns))


def count_without(many, patterns):
    """Return how many orders of so many things have none of some patterns."""
    check_many(many)
    check_patterns(patterns)
    check_most(many, MOST_COUNTED)
    return len(free_orders(many, patterns))


def free_orders(many, patterns):
    """Return the list of all orders of so many things that have none of some patterns.

    Without its greatest thing, such an order has none either.
    """
    free = [()]
    for thing in range(many):
        longer = [order[:place] + (thing,) + order[place:] for order in free for place in range(thing + 1)]
        free = [order for order in longer if not any([has_spot(order, pattern) for pattern in patterns])]
    return free
