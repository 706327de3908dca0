"""Roads of orders, and the squares that lie on them."""

from wiredorders.common import is_group
from wiredorders.errors import InvalidRoad
from wiredorders.orders import MOST_THINGS, check_order


def road_of(order):
    """Return the road of an order."""
    check_order(order)
    return road_in(order)


def road_in(order):
    """Return, for each number of first places, the point of the things there."""
    return tuple([tuple(sorted(order[:places])) for places in range(len(order) + 1)])


def is_road(value):
    """Tell whether any value is the road of some order."""
    return order_on(value) is not None


def order_of_road(value):
    """Return the order that has this road."""
    order = order_on(value)
    if order is None:
        raise InvalidRoad("not the road of an order")
    return order


def order_on(value):
    """Return the order whose road any value is, or None."""
    if not isinstance(value, tuple) or not 2 <= len(value) <= MOST_THINGS + 1:
        return None
    many = len(value) - 1
    if not all([is_group(point, places, many - 1) for places, point in enumerate(value)]):
        return None
    steps = [[thing for thing in value[at + 1] if thing not in value[at]] for at in range(many)]
    order = tuple([step[0] for step in steps])
    return order if road_in(order) == value else None


def squares_on(order):
    """Return the ascending list of all squares that lie on the road of an order."""
    check_order(order)
    rises = [place for place in range(len(order) - 1) if order[place] < order[place + 1]]
    return sorted([square_at(order, place) for place in rises])


def squares_under(order):
    """Return the ascending list of all squares by whose putting the road of an order can come."""
    check_order(order)
    drops = [place for place in range(len(order) - 1) if order[place] > order[place + 1]]
    return sorted([square_at(order, place) for place in drops])


def square_at(order, place):
    """Return the square of the things ahead of a place, and of those at it and at the next one."""
    one, other = order[place], order[place + 1]
    return (tuple(sorted(order[:place])), min(one, other), max(one, other))
