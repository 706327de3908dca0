"""Orders carried from weight to size, and from rings to tops, and back."""

from wiredorders.orders import check_order
from wiredorders.rings import rings_in


def weight_to_size(order):
    """Return what an order is carried to from weight to size."""
    check_order(order)
    row = []
    for thing in order:
        row = last_ahead(row, thing) + [thing]
    return tuple(row)


def last_ahead(row, thing):
    """Return a list of things in which the last one of each part has gone to the part's beginning.

    A part ends with each thing that is less than a further one, or greater,
    as the row's last one is.
    """
    moved = []
    begin = 0
    for at, other in enumerate(row):
        if (other < thing) == (row[-1] < thing):
            moved = moved + [other] + row[begin:at]
            begin = at + 1
    return moved


def size_to_weight(order):
    """Return the order that is carried to this one from weight to size."""
    check_order(order)
    row = list(order)
    things = []
    while row:
        thing = row.pop()
        things.append(thing)
        # What was the last thing of its part is the first one now; about, this is as it was.
        row = last_ahead(row[::-1], thing)[::-1]
    return tuple(things[::-1])


def rings_to_tops(order):
    """Return what an order is carried to from rings to tops."""
    check_order(order)
    told = sorted([ring_from_greatest(ring) for ring in rings_in(order)])
    return tuple([thing for ring in told for thing in ring])


def ring_from_greatest(ring):
    """Return a ring, told from its greatest thing on."""
    at = ring.index(max(ring))
    return ring[at:] + ring[:at]


def tops_to_rings(order):
    """Return the order that is carried to this one from rings to tops: each top begins a ring."""
    check_order(order)
    things = list(order)
    top = order[0]
    for at, thing in enumerate(order):
        if thing > top:
            top = thing
        # The next thing of the ring, or its first one.
        following = order[at + 1:at + 2]
        things[thing] = following[0] if following and following[0] < top else top
    return tuple(things)
