"""Climbs of least rows: they tell all pipes of an order, each by one of its rows."""

from wiredorders.common import are_within
from wiredorders.errors import InvalidClimb
from wiredorders.orders import check_many, check_most
from wiredorders.pipes import check_pipes
from wiredorders.rowmoves import check_least_row

MOST_LISTED = 10


def is_climb(many, row, value):
    """Tell whether any value is a climb of a least row."""
    check_many(many)
    check_least_row(many, row)
    return is_climb_in(row, value)


def is_climb_in(row, value):
    """Tell whether any value is a climb of a least row."""
    if not are_within(value, 0, max(row, default=0)) or len(value) != len(row):
        return False
    if not all([number <= exchange for number, exchange in zip(value, row)]):
        return False
    return all([value[at] >= value[at - 1] + rise_at(row, at) for at in range(1, len(row))])


def rise_at(row, at):
    """Return by how much a climb has to go up ahead of an index at least: 1 if the exchanges rise there, or 0."""
    return 1 if row[at - 1] < row[at] else 0


def climbs(many, row):
    """Return the ascending list of all climbs of a least row."""
    check_many(many)
    check_least_row(many, row)
    check_most(len(row), MOST_LISTED)
    bounds = bounds_in(row)
    found = [()]
    for at, bound in enumerate(bounds):
        rise = rise_at(row, at) if at > 0 else 0
        found = [
            climb + (number,) for climb in found
            for number in range(climb[-1] + rise if climb else 0, bound + 1)
        ]
    return found


def bounds_in(row):
    """Return the list of the greatest number at each index with which a climb can go on to the row's end."""
    bounds = []
    for at in reversed(range(len(row))):
        bounds.append(min(row[at], bounds[-1] - rise_at(row, at + 1)) if bounds else row[at])
    return bounds[::-1]


def count_climbs(many, row):
    """Return how many climbs a least row has."""
    check_many(many)
    check_least_row(many, row)
    if row == ():
        return 1
    # How many beginnings of climbs there are, by their last number.
    ways = [1 for _ in range(row[0] + 1)]
    for at in range(1, len(row)):
        rise = rise_at(row, at)
        ways = [sum(ways[:max(0, number + 1 - rise)]) for number in range(row[at] + 1)]
    return sum(ways)


def pipes_by(many, row, climb):
    """Return the pipes whose crossings a climb of a least row tells."""
    check_many(many)
    check_least_row(many, row)
    if not is_climb_in(row, climb):
        raise InvalidClimb("not a climb of the row")
    return tuple(sorted([(number, exchange - number) for number, exchange in zip(climb, row)]))


def climb_of(many, pipes):
    """Return the climb of the row of pipes by which they come."""
    check_many(many)
    check_pipes(many, pipes)
    return tuple([r for r, _ in pipes])
