"""The points of a laying, the roads that come by its rows, and layings mirrored."""

from wiredorders.common import all_reached
from wiredorders.layings import check_laying, places_on
from wiredorders.orders import check_most, check_order, order_after
from wiredorders.roads import road_in
from wiredorders.sixes import point_with

MOST_COUNTED = 7
MOST_LISTED = 6


def points_of(order, laying):
    """Return the ascending list of all points of a laying."""
    check_order(order)
    check_laying(order, laying)
    plain = road_in(tuple(range(len(order))))
    # Each square, put down, brings the road to one point more: that of its base and its greater thing.
    return sorted(list(plain) + [point_with(base, y) for base, _, y in laying])


def count_roads(order, laying):
    """Return how many roads come by the rows of a laying."""
    check_order(order)
    check_laying(order, laying)
    check_most(len(order), MOST_COUNTED)
    return len(orders_by(len(order), laying))


def orders_within(order, laying):
    """Return the ascending list of the orders of all roads that come by the rows of a laying."""
    check_order(order)
    check_laying(order, laying)
    check_most(len(order), MOST_LISTED)
    return sorted(orders_by(len(order), laying))


def orders_by(many, laying):
    """Return the list of all orders to which the rows of a laying lead on their way."""
    squares = {square: True for square in laying}
    return all_reached(
        tuple(range(many)),
        lambda order: [order_after(order, (place,)) for place in places_on(order, squares)],
    )


def laying_mirrored(order, laying):
    """Return a laying mirrored: one of the order turned about and turned over."""
    check_order(order)
    check_laying(order, laying)
    return tuple(sorted([square_mirrored(len(order), square) for square in laying]))


def square_mirrored(many, square):
    """Return the square with the things as far from the greatest one, and with all others but its base's."""
    base, x, y = square
    last = many - 1
    rest = [last - thing for thing in reversed(range(many)) if thing not in base + (x, y)]
    return (tuple(rest), last - y, last - x)
