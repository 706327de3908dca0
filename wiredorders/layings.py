"""Layings of an order: the squares that are put down when its least rows are done."""

from wiredorders.common import all_reached, are_ascending, are_within, is_group
from wiredorders.errors import InvalidLaying, InvalidSquare
from wiredorders.orders import check_many, check_most, check_order, order_after, order_in
from wiredorders.overtakings import some_row
from wiredorders.roads import square_at
from wiredorders.rowlots import form_in, size_in
from wiredorders.rowmoves import check_least_row, near_forms

MOST_LISTED = 5
MOST_COUNTED = 6
MOST_ROWS_COUNTED = 7


def is_based(value, count, high):
    """Tell whether any value is a point and, behind it, so many ascending things that are not of it."""
    if not isinstance(value, tuple) or len(value) != 1 + count:
        return False
    base, things = value[0], value[1:]
    if not are_within(base, 0, high) or not are_ascending(base) or not is_group(things, count, high):
        return False
    return not any([thing in base for thing in things])


def laying_of_row(many, row):
    """Return the laying of a least row."""
    check_many(many)
    check_least_row(many, row)
    return laying_in(many, row)


def laying_in(many, row):
    """Return the ascending tuple of the squares that a least row puts down."""
    return tuple(sorted(squares_put(many, row)))


def squares_put(many, row):
    """Return the list of the squares that the steps of a least row put down, in their order."""
    order = tuple(range(many))
    squares = []
    for exchange in row:
        squares.append(square_at(order, exchange))
        order = order_after(order, (exchange,))
    return squares


def is_laying(order, value):
    """Tell whether any value is a laying of an order."""
    check_order(order)
    return is_laying_in(order, value)


def is_laying_in(order, value):
    """Tell whether any value is a laying of an order, the order being right."""
    many = len(order)
    if not isinstance(value, tuple) or not all([is_based(square, 2, many - 1) for square in value]):
        return False
    if not are_ascending(value):
        return False
    row = row_putting(many, value)
    return len(row) == len(value) and order_in(many, row) == order


def check_laying(order, value):
    """Raise InvalidLaying for any value that is no laying of an order."""
    if not is_laying_in(order, value):
        raise InvalidLaying("not a laying of the order")


def row_putting(many, laying):
    """Return the first row, in ascending order, that puts squares down as long as one lies on the road.

    A square that lies on the road does so until it is put down, or else never
    again; so it is right to put any of them down, and the first row takes the
    least place.
    """
    squares = {square: True for square in laying}
    order = tuple(range(many))
    row = []
    places = places_on(order, squares)
    while places:
        row.append(places[0])
        order = order_after(order, (places[0],))
        places = places_on(order, squares)
    return tuple(row)


def places_on(order, squares):
    """Return the ascending list of the places at which some of these squares lie on an order's road."""
    rises = [place for place in range(len(order) - 1) if order[place] < order[place + 1]]
    return [place for place in rises if square_at(order, place) in squares]


def layings(order):
    """Return the ascending list of all layings of an order."""
    check_order(order)
    check_most(len(order), MOST_LISTED)
    return sorted([laying_in(len(order), form) for form in forms_of(order)])


def forms_of(order):
    """Return the list of all lot forms of an order's least rows; each lot has a laying of its own."""
    return all_reached(form_in(some_row(order)), near_forms)


def count_layings(order):
    """Return how many layings an order has."""
    check_order(order)
    check_most(len(order), MOST_COUNTED)
    return len(forms_of(order))


def first_row_of(order, laying):
    """Return the first row of a laying, in ascending order."""
    check_order(order)
    check_laying(order, laying)
    return row_putting(len(order), laying)


def count_rows_of(order, laying):
    """Return how many rows a laying has."""
    check_order(order)
    check_laying(order, laying)
    check_most(len(order), MOST_ROWS_COUNTED)
    return size_in(row_putting(len(order), laying))


def check_square(many, laying, value):
    """Raise InvalidSquare for any value that is no square of a laying."""
    if not is_based(value, 2, many - 1) or value not in laying:
        raise InvalidSquare("not a square of the laying")


def comes_behind(order, laying, square, other):
    """Tell whether the other square of a laying comes behind the one."""
    check_order(order)
    check_laying(order, laying)
    check_square(len(order), laying, square)
    check_square(len(order), laying, other)
    row = row_putting(len(order), laying)
    squares = squares_put(len(order), row)
    return squares.index(other) in steps_behind(row, squares.index(square))


def steps_behind(row, at):
    """Return the list of the indices of the steps that no far moves bring ahead of the one at an index."""
    held = [row[at]]
    found = []
    for later in range(at + 1, len(row)):
        if min([abs(row[later] - exchange) for exchange in held]) <= 1:
            held.append(row[later])
            found.append(later)
    return found
