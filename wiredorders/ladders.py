"""Ladders of pipes: steps from pipes of an order to other ones."""

from wiredorders.common import are_within
from wiredorders.errors import InvalidLadder
from wiredorders.orders import check_many
from wiredorders.pipes import check_pipes


def ladders(many, pipes):
    """Return the ascending list of all ladders of pipes."""
    check_many(many)
    check_pipes(many, pipes)
    return ladders_in(pipes)


def ladders_in(pipes):
    """Return the ascending list of all ladders of pipes: each crossing has one at most."""
    crossings = {tile: True for tile in pipes}
    found = []
    for r, c in pipes:
        if (r, c + 1) not in crossings:
            q = r - 1 - crossed_pairs(crossings, r, c, -1)
            if q >= 0 and (q, c) not in crossings and (q, c + 1) not in crossings:
                found.append(((r, c), (q, c + 1)))
    return found


def crossed_pairs(crossings, row, column, by):
    """Return how many rows next to a row, up or down, cross in the column and in the one behind it."""
    at = row + by
    while (at, column) in crossings and (at, column + 1) in crossings:
        at = at + by
    return abs(at - row) - 1


def ladders_down_in(pipes):
    """Return the ascending list of the ladders by which pipes come from others: each crossing has one at most."""
    crossings = {tile: True for tile in pipes}
    found = []
    for q, d in pipes:
        if d > 0 and (q, d - 1) not in crossings:
            r = q + 1 + crossed_pairs(crossings, q, d - 1, 1)
            if (r, d - 1) not in crossings and (r, d) not in crossings:
                found.append(((r, d - 1), (q, d)))
    return sorted(found)


def is_ladder_among(value, told):
    """Tell whether any value is one of these ladders."""
    if not isinstance(value, tuple) or len(value) != 2:
        return False
    return all([are_within(tile, 0, 30) for tile in value]) and value in told


def climbed(many, pipes, ladder):
    """Return the pipes behind a ladder."""
    check_many(many)
    check_pipes(many, pipes)
    if not is_ladder_among(ladder, ladders_in(pipes)):
        raise InvalidLadder("not a ladder of the pipes")
    return moved(pipes, ladder[0], ladder[1])


def moved(pipes, tile, aim):
    """Return the pipes with a crossing that goes from a tile to another one."""
    return tuple(sorted([other for other in pipes if other != tile] + [aim]))


def ladders_down(many, pipes):
    """Return the ascending list of the ladders by which pipes come from others."""
    check_many(many)
    check_pipes(many, pipes)
    return ladders_down_in(pipes)


def climbed_down(many, pipes, ladder):
    """Return the pipes from which a ladder leads to these."""
    check_many(many)
    check_pipes(many, pipes)
    if not is_ladder_among(ladder, ladders_down_in(pipes)):
        raise InvalidLadder("not a ladder by which the pipes come")
    return moved(pipes, ladder[1], ladder[0])


def ladder_way(many, pipes):
    """Return any tuple of ladders that lead from the low pipes of their order to these.

    Going down ever again ends at the low pipes, the only ones to which no
    ladder leads.
    """
    check_many(many)
    check_pipes(many, pipes)
    back = []
    down = ladders_down_in(pipes)
    while down:
        back.append(down[0])
        pipes = moved(pipes, down[0][1], down[0][0])
        down = ladders_down_in(pipes)
    return tuple(back[::-1])
