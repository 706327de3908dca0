"""Fields of a drawing, triangles and their turning, and the least drawings of an order."""

from wiredorders.common import fewest_steps
from wiredorders.crossings import check_crossing, crossings_in
from wiredorders.drawings import check_drawing, check_least, drawn_in, order_drawn_in, row_in
from wiredorders.errors import InvalidField, Unlike
from wiredorders.orders import check_most, check_order
from wiredorders.rowlots import forms_in
from wiredorders.rowmoves import corners_in, near_made

MOST_LISTED = 5


def fields(drawing):
    """Return the ascending list of the pairs of each field and its number of corners."""
    check_drawing(drawing)
    found = [corners_from(drawing, crossing) for crossing in crossings_in(drawing)]
    return [(corners[0], len(corners)) for corners in found if corners]


def corners_from(drawing, crossing):
    """Return the ascending list of the corners of the field told by a crossing, or an empty one."""
    column, exchange = crossing
    corners = [crossing]
    for at in range(column + 1, len(drawing[1])):
        if exchange in drawing[1][at]:
            return corners + [(at, exchange)]
        beside = [other for other in drawing[1][at] if abs(other - exchange) == 1]
        corners = corners + [(at, other) for other in beside]
    return []


def field_corners(drawing, crossing):
    """Return the ascending list of the corners of the field told by a crossing."""
    check_drawing(drawing)
    check_crossing(drawing, crossing)
    corners = corners_from(drawing, crossing)
    if not corners:
        raise InvalidField("no field is told by the crossing")
    return corners


def triangles(drawing):
    """Return the ascending list of the crossings by which triangles are told."""
    check_drawing(drawing)
    return [crossing for crossing in crossings_in(drawing) if len(corners_from(drawing, crossing)) == 3]


def triangle_turned(drawing, crossing):
    """Return the drawing with a triangle turned."""
    check_drawing(drawing)
    check_crossing(drawing, crossing)
    corners = corners_from(drawing, crossing)
    if len(corners) != 3:
        raise InvalidField("no triangle is told by the crossing")
    told = crossings_in(drawing)
    return turned_at(drawing, [told.index(corner) for corner in corners])


def turned_at(drawing, corners):
    """Return the drawing with the triangle turned whose corners have these indices in the row."""
    return drawn_in(drawing[0], near_made(row_in(drawing), corners))


def least_drawings(order):
    """Return the ascending list of all least drawings of an order."""
    check_order(order)
    check_most(len(order), MOST_LISTED)
    return sorted([drawn_in(len(order), form) for form in forms_in(order)])


def turnings_to(least, aim):
    """Return any tuple of as few crossings as can be whose triangles, turned, lead to the aim."""
    check_least(least)
    check_least(aim)
    if order_drawn_in(least) != order_drawn_in(aim):
        raise Unlike("the drawings are of unlike orders")
    check_most(least[0], MOST_LISTED)
    return tuple(fewest_steps(least, aim, turnings_from))


def turnings_from(drawing):
    """Return the list of the triangles of a drawing, each with the drawing with it turned."""
    told = crossings_in(drawing)
    return [(told[corners[0]], turned_at(drawing, corners)) for corners in corners_in(row_in(drawing))]
