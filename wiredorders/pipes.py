"""Stairs of pipes: their rows and ways, and all pipes of an order."""

from wiredorders.codes import code_in
from wiredorders.common import are_ascending, are_within, is_within
from wiredorders.errors import InvalidPipes, InvalidPlace
from wiredorders.orders import check_many, check_most, check_order, opposite_in, order_in, renamed_in
from wiredorders.overtakings import is_least_in

MOST_LISTED = 6
MOST_COUNTED = 9


def are_pipes(many, value):
    """Tell whether any value is pipes of so many things."""
    check_many(many)
    return are_pipes_in(many, value)


def are_pipes_in(many, value):
    """Tell whether any value is pipes of so many things, many being right."""
    if not isinstance(value, tuple) or not all([is_crossing_tile(many, tile) for tile in value]):
        return False
    return are_ascending(value) and is_least_in(many, row_in_pipes(value))


def is_crossing_tile(many, value):
    """Tell whether any value is a tile at which two pipes can cross."""
    return are_within(value, 0, many - 2) and len(value) == 2 and sum(value) <= many - 2


def check_pipes(many, value):
    """Raise InvalidPipes for any value that is no pipes of so many things."""
    if not are_pipes_in(many, value):
        raise InvalidPipes("not pipes of so many things")


def row_in_pipes(pipes):
    """Return the row of a tuple of crossings: by their rows, and from the greatest column on in each."""
    tiles = sorted([(r, -c) for r, c in pipes])
    return tuple([r - c for r, c in tiles])


def pipes_row(many, pipes):
    """Return the row of pipes."""
    check_many(many)
    check_pipes(many, pipes)
    return row_in_pipes(pipes)


def pipes_order(many, pipes):
    """Return the order of which these are pipes."""
    check_many(many)
    check_pipes(many, pipes)
    return order_in(many, row_in_pipes(pipes))


def pipe_tiles(many, pipes):
    """Return, for each row, the tuple of the tiles of the pipe that comes in there, on its way."""
    check_many(many)
    check_pipes(many, pipes)
    return tuple([tiles_from(pipes, row) for row in range(many)])


def tiles_from(pipes, row):
    """Return the tuple of the tiles of the pipe that comes in at the left of a row."""
    crossings = {tile: True for tile in pipes}
    r, c = row, 0
    is_rightward = True
    tiles = []
    while r >= 0:
        tiles.append((r, c))
        if (r, c) not in crossings:
            is_rightward = not is_rightward
        if is_rightward:
            c = c + 1
        else:
            r = r - 1
    return tuple(tiles)


def pipes_crossed(many, pipes, one_row, other_row):
    """Return the crossing of the pipes that come in at two rows, or None."""
    check_many(many)
    check_pipes(many, pipes)
    check_place(many, one_row)
    check_place(many, other_row)
    if one_row == other_row:
        raise InvalidPlace("the same row twice")
    others = tiles_from(pipes, other_row)
    met = [tile for tile in tiles_from(pipes, one_row) if tile in pipes and tile in others]
    return met[0] if met else None


def check_place(many, value):
    """Raise InvalidPlace for any value that is no place of so many things."""
    if not is_within(value, 0, many - 1):
        raise InvalidPlace("not an integer from 0 to less than there are things")


def all_pipes(order):
    """Return the ascending list of all pipes of an order."""
    check_order(order)
    check_most(len(order), MOST_LISTED)
    return sorted([tuple(tiles) for tiles in pipes_from(order, 0)])


def pipes_from(order, row):
    """Return the list of, for all pipes of an order without crossings ahead of a row, their ascending tiles."""
    if row == len(order):
        return [[]]
    return [
        [(row, exchange - row) for exchange in picked[::-1]] + rest
        for picked, left in row_picks(order, row)
        for rest in pipes_from(left, row + 1)
    ]


def row_picks(order, row):
    """Return the list of the pairs of descending exchanges that a row can cross, and of the order of what is left.

    All lesser things than the row's number stand at their places. What is left
    must have the thing with this number there, too: so the thing t that stands
    there needs the exchanges t - 1 and so on, down to the row's number, and
    must not go up by t. Those above t are free, if they undo an overtaking.
    """
    picks = [([], order)]
    for exchange in reversed(range(order[row] + 1, len(order) - 1)):
        taken = [
            (picked + [exchange], renamed_in(left, exchange))
            for picked, left in picks if left.index(exchange) > left.index(exchange + 1)
        ]
        picks = picks + taken
    needed = list(reversed(range(row, order[row])))
    return [(picked + needed, renamed_by(left, needed)) for picked, left in picks]


def renamed_by(order, exchanges):
    """Return the order in which, exchange by exchange, the things of both numbers have changed places."""
    renamed = order
    for exchange in exchanges:
        renamed = renamed_in(renamed, exchange)
    return renamed


def count_pipes(order):
    """Return how many pipes an order has."""
    check_order(order)
    check_most(len(order), MOST_COUNTED)
    return count_from(order, 0, {})


def count_from(order, row, counts):
    """Return how many pipes without crossings ahead of a row an order has, noting this in counts by both."""
    if row == len(order):
        return 1
    if (order, row) not in counts:
        counts[(order, row)] = sum([count_from(left, row + 1, counts) for _, left in row_picks(order, row)])
    return counts[(order, row)]


def low_pipes(order):
    """Return the low pipes of an order."""
    check_order(order)
    return low_in(order)


def low_in(order):
    """Return the pipes that cross in each row as often as the code tells, from the left on."""
    return tuple([(r, c) for r, count in enumerate(code_in(order)) for c in range(count)])


def high_pipes(order):
    """Return the high pipes of an order."""
    check_order(order)
    # The tiles of the opposite's low pipes, with rows and columns exchanged.
    return tuple(sorted([(r, c) for c, r in low_in(opposite_in(order))]))
