"""Rows with shares: their spans, and moves of both.

A share is a pair (top, below) of integers without a common divisor; so is
each item of a span.
"""

from math import gcd, lcm

from wiredorders.common import is_integer, is_within
from wiredorders.errors import InvalidIndex, InvalidShares, InvalidThing, NoMove
from wiredorders.orders import check_many, check_row
from wiredorders.pipes import check_place
from wiredorders.rowmoves import is_near_at, moved_in
from wiredorders.rowsteps import met_in


def is_share(value):
    """Tell whether any value is a share."""
    if not isinstance(value, tuple) or len(value) != 2 or not all([is_integer(item) and item >= 1 for item in value]):
        return False
    return gcd(value[0], value[1]) == 1


def lowered(top, below):
    """Return the fraction with this top and this below, without a common divisor."""
    common = gcd(top, below)
    return (top // common, below // common)


def times(one, other):
    """Return the product of two shares."""
    return lowered(one[0] * other[0], one[1] * other[1])


def over(share):
    """Return a share turned over."""
    return (share[1], share[0])


def plus(one, other):
    """Return the sum of two shares."""
    return lowered(one[0] * other[1] + other[0] * one[1], one[1] * other[1])


def are_shares(many, row, value):
    """Tell whether any value is shares of a row."""
    check_many(many)
    check_row(many, row)
    return are_shares_in(row, value)


def are_shares_in(row, value):
    """Tell whether any value is shares of a row."""
    return isinstance(value, tuple) and len(value) == len(row) and all([is_share(share) for share in value])


def check_shares(many, row, shares):
    """Raise the first error that applies, if there are not so many things, or values are no row and shares of it."""
    check_many(many)
    check_row(many, row)
    if not are_shares_in(row, shares):
        raise InvalidShares("not shares of the row")


def span(many, row, shares):
    """Return the span of a row with shares."""
    check_shares(many, row, shares)
    return span_in(many, row, shares)


def span_in(many, row, shares):
    """Return the span of a row with shares."""
    belows = belows_in(many, row, shares)
    return tuple([tuple(span_line(row, shares, belows, first)) for first in range(many)])


def belows_in(many, row, shares):
    """Return the list of, for each exchange, a common below of all its shares."""
    belows = [1 for _ in range(many)]
    for exchange, share in zip(row, shares):
        belows[exchange] = lcm(belows[exchange], share[1])
    return belows


def span_line(row, shares, belows, first):
    """Return the list of the items in one row of the span.

    An item is a sum of products of one share for each exchange from the row's
    number on, up to the column's; so it stays an integer here, with the belows
    of all these exchanges left out until the end.
    """
    tops = [1 if last == first else 0 for last in range(len(belows))]
    for exchange, share in zip(row, shares):
        if tops[exchange] != 0:
            top = share[0] * (belows[exchange] // share[1])
            tops[exchange + 1] = tops[exchange + 1] + top * tops[exchange]
    items = [(1, 1) if last == first else (0, 1) for last in range(first + 1)]
    below = 1
    for last in range(first + 1, len(belows)):
        below = below * belows[last - 1]
        items.append(lowered(tops[last], below))
    return items


def span_at(many, row, shares, first, last):
    """Return the item of a span in the row with the one number, and the column with the other one."""
    check_shares(many, row, shares)
    check_place(many, first)
    check_place(many, last)
    return item_in(many, row, shares, first, last)


def item_in(many, row, shares, first, last):
    """Return the item of a span in the row with the one number, and the column with the other one."""
    return span_line(row, shares, belows_in(many, row, shares), first)[last]


def moved_far(many, row, shares, index):
    """Return the pair of a row and its shares behind a far move."""
    check_shares(many, row, shares)
    return moved_by(row, shares, "far", index)


def moved_near(many, row, shares, index):
    """Return the pair of a row and its shares behind a near move."""
    check_shares(many, row, shares)
    return moved_by(row, shares, "near", index)


def moved_by(row, shares, word, index):
    """Return the pair of a row and its shares behind a move at any index, or raise the first error that applies."""
    further = 1 if word == "far" else 2
    if not is_within(index, 0, len(row) - 1 - further):
        raise InvalidIndex("not the index of an item with enough others behind it")
    is_far_off = abs(row[index] - row[index + 1]) >= 2
    if not (is_far_off if word == "far" else is_near_at(row, index)):
        raise NoMove("the move cannot be made there")
    behind = index + 1 + further
    moved = shares[index:behind][::-1] if word == "far" else near_shares(shares[index:behind])
    return moved_in(row, (word, index)), shares[:index] + moved + shares[behind:]


def near_shares(three):
    """Return the tuple of the three shares behind a near move."""
    a, b, c = three
    whole = plus(a, c)
    return times(times(b, c), over(whole)), whole, times(times(a, b), over(whole))


def met_pairs(many, row):
    """Return the tuple of, for each exchange of a row, the ascending pair of the things that change places."""
    check_many(many)
    check_row(many, row)
    return tuple(met_in(many, row))


def heights_of(many, row, thing):
    """Return the tuple of the places at which a thing is ahead of all exchanges, and behind each."""
    check_many(many)
    check_row(many, row)
    if not is_within(thing, 0, many - 1):
        raise InvalidThing("not one of so many things")
    return heights_in(row, thing)


def heights_in(row, thing):
    """Return the tuple of the places at which a thing is ahead of all exchanges, and behind each."""
    places = [thing]
    for exchange in row:
        place = places[-1]
        if place == exchange:
            place = place + 1
        elif place == exchange + 1:
            place = place - 1
        places.append(place)
    return tuple(places)
