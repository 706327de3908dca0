"""The tables of least rows, and the rows of the last order led on."""

from wiredorders.errors import InvalidRow, InvalidTable, Unlike
from wiredorders.inserted import items_by, put_in_line, table_with, tables_by, taken_from_line
from wiredorders.leastrows import is_row_of
from wiredorders.numbered import check_table, integers_in, is_numbered, is_rising, shape_in
from wiredorders.orders import check_many, check_most, check_order, is_row_in, order_after, order_in
from wiredorders.overtakings import falls_in, is_least_in
from wiredorders.rowmoves import check_least_row
from wiredorders.shapes import stair_in

MOST_LISTED = 6


def put_exchange(line, exchange):
    """Return the pair of a line into which an exchange is put, and of that for the next line, or None."""
    if exchange in line and exchange + 1 in line:
        return line, exchange + 1
    return put_in_line(line, exchange)


def taken_exchange(line, exchange):
    """Return the pair of a line, as it was when this exchange went to the next one, and of what was put in."""
    if exchange in line:
        return line, exchange - 1
    return taken_from_line(line, exchange)


def tables_of_row(many, row):
    """Return the pair of the tables of a least row."""
    check_many(many)
    check_least_row(many, row)
    return tables_by(row, put_exchange)


def row_read(table):
    """Return the integers of a table, line by line from the last one on: a row with this left table, if any is."""
    return tuple(integers_in(table[::-1]))


def is_left(many, value):
    """Tell whether any value is a left table of so many things."""
    check_many(many)
    return is_left_in(many, value)


def is_left_in(many, value):
    """Tell whether any value is a left table of so many things, many being right."""
    if not is_rising(value):
        return False
    row = row_read(value)
    return is_row_in(many, row) and is_least_in(many, row) and tables_by(row, put_exchange)[0] == value


def check_left(many, value):
    """Raise InvalidTable for any value that is no left table of so many things."""
    if not is_left_in(many, value):
        raise InvalidTable("not a left table of so many things")


def order_with_left(many, left):
    """Return the order of the rows with a left table."""
    check_many(many)
    check_left(many, left)
    return order_in(many, row_read(left))


def row_of(many, left, right):
    """Return the least row whose tables these are."""
    check_many(many)
    check_left(many, left)
    check_table(right)
    if shape_in(left) != shape_in(right):
        raise Unlike("the tables are of unlike shapes")
    return items_by(left, right, taken_exchange)


def left_tables(order):
    """Return the ascending list of all left tables of an order's least rows."""
    check_order(order)
    check_most(len(order), MOST_LISTED)
    return sorted(lefts_in(order, {}))


def lefts_in(order, known):
    """Return the list of all left tables of an order, noting them in known by the order.

    Each least row is one of the order behind a fall's exchange, and this
    exchange at its end.
    """
    if order not in known:
        found = {}
        for fall in falls_in(order):
            for left in lefts_in(order_after(order, (fall,)), known):
                found[table_with(left, fall, put_exchange)[0]] = True
        known[order] = list(found) if found else [()]
    return known[order]


def stair_row(many, table):
    """Return the least row of the last order whose right table this is."""
    check_many(many)
    if not is_numbered(table) or shape_in(table) != stair_in(many):
        raise InvalidTable("not a numbered table of the stair of so many things")
    # All rows of the last order have this left table.
    left = tuple([tuple(range(line, many - 1)) for line in range(many - 1)])
    return items_by(left, table, taken_exchange)


def row_on(many, row):
    """Return a least row of the last order without its first exchange, and with its mirror at the end."""
    check_many(many)
    if not is_row_of(tuple(reversed(range(many))), row):
        raise InvalidRow("not a least row of the last order")
    return row[1:] + tuple([many - 2 - exchange for exchange in row[:1]])
