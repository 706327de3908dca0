"""Things put into tables, and the pair of the tables of an order."""

from wiredorders.common import is_within
from wiredorders.errors import InvalidNumber, InvalidTable, Unlike
from wiredorders.numbered import (
    GREATEST, all_lines, check_table, integers_in, is_numbered, is_rising, lines_in, shape_in, table_by_lines,
)
from wiredorders.orders import MOST_THINGS, check_most, check_order

MOST_LISTED = 8


def put_in_line(line, thing):
    """Return the pair of a line into which a thing is put, and of the thing for the next line, or None."""
    at = len([other for other in line if other < thing])
    if at == len(line):
        return line + (thing,), None
    return line[:at] + (thing,) + line[at + 1:], line[at]


def taken_from_line(line, thing):
    """Return the pair of a line, as it was when this thing went to the next one, and of what was put in."""
    at = len([other for other in line if other < thing]) - 1
    return line[:at] + (thing,) + line[at + 1:], line[at]


def table_with(table, item, put):
    """Return the pair of a table into whose first line an item is put, and of the cell that came."""
    lines = list(table) + [()]
    at = -1
    while item is not None:
        at = at + 1
        lines[at], item = put(lines[at], item)
    kept = [line for line in lines if line != ()]
    return tuple(kept), (at, len(lines[at]) - 1)


def tables_by(items, put):
    """Return the pair of the table into which items are put, and of that of when its cells came."""
    left = ()
    lines = []
    for item in items:
        left, cell = table_with(left, item, put)
        lines.append(cell[0])
    return left, table_by_lines(len(left), lines)


def items_by(left, right, taken):
    """Return the tuple of the items whose tables these are, the last one taken out first."""
    lines = list(left)
    items = []
    for line in lines_in(right)[::-1]:
        item = lines[line][-1]
        lines[line] = lines[line][:-1]
        for above in reversed(range(line)):
            lines[above], item = taken(lines[above], item)
        items.append(item)
    return tuple(items[::-1])


def put_thing(table, thing):
    """Return the pair of the table into which a thing is put, and of the cell that came."""
    if not is_rising(table) or not are_unlike(integers_in(table)):
        raise InvalidTable("not a rising table of unlike integers")
    if not is_within(thing, 0, GREATEST) or thing in integers_in(table):
        raise InvalidNumber("not an integer from 0 to 10 ** 6 that the table does not have")
    return table_with(table, thing, put_in_line)


def are_unlike(integers):
    """Tell whether no integer of a list comes again."""
    return len({integer: True for integer in integers}) == len(integers)


def tables_of(order):
    """Return the pair of the tables of an order."""
    check_order(order)
    return tables_by(order, put_in_line)


def check_order_table(value):
    """Raise InvalidTable for any value that is no numbered table of 1 to 30 integers."""
    if not is_numbered(value) or not 1 <= len(integers_in(value)) <= MOST_THINGS:
        raise InvalidTable("not a numbered table of 1 to 30 integers")


def order_of(left, right):
    """Return the order whose tables these are."""
    check_order_table(left)
    check_order_table(right)
    if shape_in(left) != shape_in(right):
        raise Unlike("the tables are of unlike shapes")
    return items_by(left, right, taken_from_line)


def orders_with_left(left):
    """Return the ascending list of all orders with this left table."""
    check_table(left)
    if left == ():
        raise InvalidTable("the empty table")
    check_most(len(integers_in(left)), MOST_LISTED)
    rights = [table_by_lines(len(left), lines) for lines in all_lines(shape_in(left))]
    return sorted([items_by(left, right, taken_from_line) for right in rights])
