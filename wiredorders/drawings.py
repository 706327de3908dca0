"""Drawings of wires that cross, and their rows."""

from wiredorders.common import are_within, is_within
from wiredorders.errors import InvalidDrawing, InvalidMany, InvalidRow
from wiredorders.orders import check_most, is_row_in, order_in
from wiredorders.overtakings import is_least_in
from wiredorders.rowlots import free_in, rounds_in, size_in

MOST_WIRES = 12
MOST_COLUMNS = 200
MOST_LISTED = 8
MOST_COUNTED = 24


def is_drawing(value):
    """Tell whether any value is a drawing."""
    if not isinstance(value, tuple) or len(value) != 2:
        return False
    many, columns = value
    if not is_within(many, 1, MOST_WIRES) or not isinstance(columns, tuple) or len(columns) > MOST_COLUMNS:
        return False
    if not all([are_within(column, 0, many - 2) for column in columns]):
        return False
    # Its columns are the rounds of their row just if all lie as far to the left as they can.
    return rounds_in(row_in(value)) == columns


def check_drawing(value):
    """Raise InvalidDrawing for any value that is no drawing."""
    if not is_drawing(value):
        raise InvalidDrawing("not a drawing")


def check_least(value):
    """Raise InvalidDrawing for any value that is no least drawing."""
    check_drawing(value)
    if not is_least_drawn(value):
        raise InvalidDrawing("not a least drawing")


def check_wires(value):
    """Raise InvalidMany for any value that is no number of wires."""
    if not is_within(value, 1, MOST_WIRES):
        raise InvalidMany("not an integer from 1 to 12")


def drawn(many, row):
    """Return the drawing of so many wires that has this row among its rows."""
    check_wires(many)
    if not is_row_in(many, row) or len(row) > MOST_COLUMNS:
        raise InvalidRow("not a row of at most 200 exchanges of so many things")
    return drawn_in(many, row)


def drawn_in(many, row):
    """Return the drawing that has a row, of any length, among its rows."""
    return (many, rounds_in(row))


def row_drawn(drawing):
    """Return the row of a drawing."""
    check_drawing(drawing)
    return row_in(drawing)


def row_in(drawing):
    """Return the exchanges of all columns, from left to right."""
    return tuple([exchange for column in drawing[1] for exchange in column])


def order_drawn(drawing):
    """Return the order of a drawing."""
    check_drawing(drawing)
    return order_drawn_in(drawing)


def order_drawn_in(drawing):
    """Return the order to which the row of a drawing leads."""
    return order_in(drawing[0], row_in(drawing))


def is_least_drawing(drawing):
    """Tell whether a drawing is least."""
    check_drawing(drawing)
    return is_least_drawn(drawing)


def is_least_drawn(drawing):
    """Tell whether the row of a drawing is a least row."""
    return is_least_in(drawing[0], row_in(drawing))


def turned_drawing(drawing):
    """Return the drawing of the row the other way round."""
    check_drawing(drawing)
    return drawn_in(drawing[0], row_in(drawing)[::-1])


def over_drawing(drawing):
    """Return the drawing with each exchange as far from the greatest one as it was from 0."""
    check_drawing(drawing)
    many = drawing[0]
    return drawn_in(many, [many - 2 - exchange for exchange in row_in(drawing)])


def rows_drawn(drawing):
    """Return the ascending list of all rows of a drawing."""
    check_drawing(drawing)
    row = row_in(drawing)
    check_most(len(row), MOST_LISTED)
    return rows_like(row)


def rows_like(row):
    """Return the ascending list of all rows of the lot of a row."""
    if not row:
        return [()]
    begins = sorted([(row[at], at) for at in free_in(row)])
    return [(begin,) + rest for begin, at in begins for rest in rows_like(row[:at] + row[at + 1:])]


def count_rows_drawn(drawing):
    """Return how many rows a drawing has."""
    check_drawing(drawing)
    row = row_in(drawing)
    check_most(len(row), MOST_COUNTED)
    return size_in(row)
