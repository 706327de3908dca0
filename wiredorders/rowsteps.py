"""What the steps of a row do: the things that they exchange, and the steps that are waste."""

from wiredorders.common import are_ascending, are_within, is_group
from wiredorders.errors import InvalidPairs
from wiredorders.orders import check_exchange, check_many, check_order, check_row, order_after, order_in
from wiredorders.overtakings import is_least_in
from wiredorders.rowmoves import check_least_row


def met_in(many, row):
    """Return the list of the ascending pairs of things that a row's steps exchange."""
    things = list(range(many))
    pairs = []
    for exchange in row:
        one, other = things[exchange], things[exchange + 1]
        pairs.append((min(one, other), max(one, other)))
        things[exchange], things[exchange + 1] = other, one
    return pairs


def row_overtakings(many, row):
    """Return the tuple of the overtakings that the steps of a least row make."""
    check_many(many)
    check_least_row(many, row)
    return tuple(met_in(many, row))


def are_row_overtakings(many, value):
    """Tell whether any value is the row overtakings of some least row."""
    check_many(many)
    return row_with_pairs(many, value) is not None


def row_by_overtakings(many, pairs):
    """Return the least row that has these row overtakings."""
    check_many(many)
    row = row_with_pairs(many, pairs)
    if row is None:
        raise InvalidPairs("not the overtakings of a least row's steps")
    return row


def row_with_pairs(many, value):
    """Return the least row whose row overtakings any value is, or None."""
    if not isinstance(value, tuple):
        return None
    things = list(range(many))
    row = []
    for pair in value:
        if not is_group(pair, 2, many - 1):
            return None
        at = things.index(pair[0])
        if things[at + 1:at + 2] != [pair[1]]:
            return None
        things[at], things[at + 1] = things[at + 1], things[at]
        row.append(at)
    return tuple(row)


def waste(many, row):
    """Return the indices of the first two steps that exchange the same things, or None."""
    check_many(many)
    check_row(many, row)
    return waste_in(many, row)


def waste_in(many, row):
    """Return the pair of the indices of both steps, the latter as early as can be, or None."""
    steps = {}
    for at, pair in enumerate(met_in(many, row)):
        if pair in steps:
            return (steps[pair], at)
        steps[pair] = at
    return None


def kept_steps(many, row):
    """Return any kept steps of a row: those that are left when no two of them are waste."""
    check_many(many)
    check_row(many, row)
    kept = list(range(len(row)))
    found = waste_in(many, row)
    while found is not None:
        kept = [index for at, index in enumerate(kept) if at not in found]
        found = waste_in(many, [row[index] for index in kept])
    return tuple(kept)


def is_kept(many, row, value):
    """Tell whether any value is kept steps of a row."""
    check_many(many)
    check_row(many, row)
    if not are_within(value, 0, len(row) - 1) or not are_ascending(value):
        return False
    items = tuple([row[index] for index in value])
    return order_in(many, items) == order_in(many, row) and is_least_in(many, items)


def goes_for(many, row, exchange):
    """Return the index of the step that goes if an exchange comes to a least row's end, or None."""
    check_many(many)
    check_least_row(many, row)
    check_exchange(many, exchange)
    found = waste_in(many, row + (exchange,))
    return None if found is None else found[0]


def pushed_order(order, row):
    """Return an order led by those exchanges alone that make an overtaking more."""
    check_order(order)
    check_row(len(order), row)
    return order_after(order, pushed_in(order, row))


def pushed_in(order, row):
    """Return the tuple of those exchanges of a row that make an overtaking more, one after another."""
    things = list(order)
    kept = []
    for exchange in row:
        if things[exchange] < things[exchange + 1]:
            things[exchange], things[exchange + 1] = things[exchange + 1], things[exchange]
            kept.append(exchange)
    return tuple(kept)
