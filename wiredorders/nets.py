"""Nets of comparers: what they lead orders and rows of marks to, and which of them sort.

All rows of marks are led at once: the marks at a place are the bits of one
integer, a bit for each row, in the rows' ascending order. What a net does to
these tells what it does to orders: for each bound, things below it are marks 0
and all others marks 1.
"""

from wiredorders.common import are_within, is_group
from wiredorders.errors import InvalidMarks, InvalidNet
from wiredorders.orders import check_many, check_most, check_order

MOST_COMPARERS = 120
MOST_LED = 10


def is_net(many, value):
    """Tell whether any value is a net of so many things."""
    check_many(many)
    return is_net_in(many, value)


def is_net_in(many, value):
    """Tell whether any value is a net of so many things, many being right."""
    if not isinstance(value, tuple) or len(value) > MOST_COMPARERS:
        return False
    return all([is_group(comparer, 2, many - 1) for comparer in value])


def check_net(many, value):
    """Raise InvalidNet for any value that is no net of so many things."""
    if not is_net_in(many, value):
        raise InvalidNet("not a net of so many things")


def check_led_net(many, net):
    """Raise the first error that applies, if a net is none, or is of more things than can be led at once."""
    check_many(many)
    check_net(many, net)
    check_most(many, MOST_LED)


def sorted_by(order, net):
    """Return the order to which a net leads an order."""
    check_order(order)
    check_net(len(order), net)
    return led_by(order, net)


def led_by(row, net):
    """Return the tuple to which a net leads an order, or a row of marks."""
    items = list(row)
    for low, high in net:
        if items[low] > items[high]:
            items[low], items[high] = items[high], items[low]
    return tuple(items)


def marks_by(many, net, marks):
    """Return the row of marks to which a net leads one."""
    check_many(many)
    check_net(many, net)
    if not are_within(marks, 0, 1) or len(marks) != many:
        raise InvalidMarks("not a row of as many marks")
    return led_by(marks, net)


def layers_of(many, net):
    """Return the list of the layers of a net."""
    check_many(many)
    check_net(many, net)
    reached = [0 for _ in range(many)]
    layers = []
    for low, high in net:
        at = max(reached[low], reached[high])
        if at == len(layers):
            layers.append([])
        layers[at].append((low, high))
        reached[low], reached[high] = at + 1, at + 1
    return [tuple(layer) for layer in layers]


def rows_of_marks(many):
    """Return the ascending list of all rows of so many marks."""
    rows = [()]
    for _ in range(many):
        rows = [row + (mark,) for row in rows for mark in (0, 1)]
    return rows


def bits_of(many):
    """Return the list of, for each place, the bits of all rows with a mark 1 there."""
    rows = rows_of_marks(many)
    return [sum([1 << at for at, row in enumerate(rows) if row[place] == 1]) for place in range(many)]


def bits_by(many, net):
    """Return the bits to which a net leads those of all rows."""
    bits = bits_of(many)
    for low, high in net:
        bits[low], bits[high] = bits[low] & bits[high], bits[low] | bits[high]
    return bits


def rows_with(many, bits):
    """Return the ascending list of the rows of marks that have their bit."""
    return [row for at, row in enumerate(rows_of_marks(many)) if (bits >> at) & 1 == 1]


def unsorted_rows(many, net):
    """Return the ascending list of all rows of marks that a net does not sort."""
    bits = bits_by(many, net)
    falling = 0
    for place in range(many - 1):
        falling = falling | ((bits[place] | bits[place + 1]) ^ bits[place + 1])
    return rows_with(many, falling)


def is_sorter(many, net):
    """Tell whether a net is a sorter."""
    check_led_net(many, net)
    return unsorted_rows(many, net) == []


def unsorted_marks(many, net):
    """Return the ascending list of all rows of marks that a net does not sort."""
    check_led_net(many, net)
    return unsorted_rows(many, net)


def first_unsorted(many, net):
    """Return the first order that a net does not sort, or None."""
    check_led_net(many, net)
    return first_like(many, unsorted_rows(many, net))


def first_like(many, rows):
    """Return the first order that is one of these rows of marks by some bound, or None."""
    if not rows:
        return None
    # The marks 0 of a row are told by the things below their number.
    left = [(row, row.count(0)) for row in rows]
    things = []
    for place in range(many):
        for thing in range(many):
            like = [(row, bound) for row, bound in left if (row[place] == 1) == (thing >= bound)]
            if like and thing not in things:
                break
        things.append(thing)
        left = like
    return tuple(things)


def idle_comparers(many, net):
    """Return the ascending list of the indices of all idle comparers."""
    check_led_net(many, net)
    return idle_in(many, net)


def idle_in(many, net):
    """Return the ascending list of the indices of all idle comparers."""
    bits = bits_of(many)
    idle = []
    for at, (low, high) in enumerate(net):
        if bits[low] | bits[high] == bits[high]:
            idle.append(at)
        bits[low], bits[high] = bits[low] & bits[high], bits[low] | bits[high]
    return idle


def without_idle(many, net):
    """Return a net without its idle comparers."""
    check_led_net(many, net)
    idle = idle_in(many, net)
    return tuple([comparer for at, comparer in enumerate(net) if at not in idle])


def first_parted(many, one_net, other_net):
    """Return the first order that two nets lead to unlike orders, or None."""
    check_many(many)
    check_net(many, one_net)
    check_net(many, other_net)
    check_most(many, MOST_LED)
    parted = 0
    for one, other in zip(bits_by(many, one_net), bits_by(many, other_net)):
        parted = parted | (one ^ other)
    return first_like(many, rows_with(many, parted))
