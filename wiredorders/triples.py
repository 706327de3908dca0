"""Triples of an order, the late ones of a least drawing, and bars of lots of triples."""

from wiredorders.common import are_ascending, are_groups
from wiredorders.drawings import MOST_WIRES, check_least, drawn_in, order_drawn_in, row_in
from wiredorders.errors import InvalidTriples
from wiredorders.orders import check_most, check_order, opposite_in
from wiredorders.overtakings import overtakings_in
from wiredorders.rowsteps import met_in, row_with_pairs


def triples_of(order):
    """Return the ascending list of all triples of an order."""
    check_order(order)
    return triples_in(order)


def triples_in(order):
    """Return the ascending triples of things that stand in descending order."""
    places = opposite_in(order)
    many = len(order)
    pairs = [(a, b) for a in range(many) for b in range(a + 1, many) if places[a] > places[b]]
    return [(a, b, c) for a, b in pairs for c in range(b + 1, many) if places[b] > places[c]]


def late_triples(least):
    """Return the ascending tuple of the late triples of a least drawing."""
    check_least(least)
    steps = {pair: at for at, pair in enumerate(met_in(least[0], row_in(least)))}
    return tuple([(a, b, c) for a, b, c in triples_in(order_drawn_in(least)) if steps[(b, c)] < steps[(a, b)]])


def is_lot_in(order, value):
    """Tell whether any value is a lot of triples of an order."""
    if not are_groups(value, 3, len(order) - 1) or not are_ascending(value):
        return False
    known = {triple: True for triple in triples_in(order)}
    return all([triple in known for triple in value])


def check_lot(order, value):
    """Raise InvalidTriples for any value that is no lot of triples of an order."""
    if not is_lot_in(order, value):
        raise InvalidTriples("not an ascending tuple of triples of the order")


def row_late(order, lot):
    """Return the least row in which the late triples of an order are just those of a lot, or None."""
    aheads = aheads_in(order, lot)
    done = arranged(aheads)
    return row_with_pairs(len(order), tuple(done)) if len(done) == len(aheads) else None


def aheads_in(order, lot):
    """Return, for each overtaking, the list of those ahead of which it has to come."""
    late = {triple: True for triple in lot}
    aheads = {pair: [] for pair in overtakings_in(order)}
    for a, c in overtakings_in(order):
        for b in range(a + 1, c):
            three = [pair for pair in ((a, b), (a, c), (b, c)) if pair in aheads]
            if (a, b, c) in late or (a, b) not in aheads:
                three = three[::-1]
            for at, pair in enumerate(three):
                aheads[pair].extend(three[at + 1:])
    return aheads


def arranged(aheads):
    """Return the list of overtakings, each behind all that come ahead, as far as there are such."""
    waits = {pair: 0 for pair in aheads}
    for pair in aheads:
        for later in aheads[pair]:
            waits[later] = waits[later] + 1
    free = [pair for pair in waits if waits[pair] == 0]
    done = []
    while free:
        pair = free.pop()
        done.append(pair)
        for later in aheads[pair]:
            waits[later] = waits[later] - 1
            if waits[later] == 0:
                free.append(later)
    return done


def drawing_late(order, lot):
    """Return the least drawing of an order whose late triples are just those of a lot, or None."""
    check_order(order)
    check_lot(order, lot)
    check_most(len(order), MOST_WIRES)
    row = row_late(order, lot)
    return None if row is None else drawn_in(len(order), row)


def triple_bar(order, lot):
    """Return any bar of a lot in which no overtaking comes again, or None."""
    check_order(order)
    check_lot(order, lot)
    aheads = aheads_in(order, lot)
    done = {pair: True for pair in arranged(aheads)}
    left = [pair for pair in aheads if pair not in done]
    return bar_among(left, aheads) if left else None


def bar_among(left, aheads):
    """Return a bar of overtakings each of which comes behind another one of them."""
    former = {later: pair for pair in left for later in aheads[pair]}
    back = []
    pair = left[0]
    while pair not in back:
        back.append(pair)
        pair = former[pair]
    return tuple(back[back.index(pair):][::-1])


def is_triple_bar(order, lot, value):
    """Tell whether any value is a bar of a lot."""
    check_order(order)
    check_lot(order, lot)
    if not are_groups(value, 2, len(order) - 1) or len(value) < 3:
        return False
    aheads = aheads_in(order, lot)
    if not all([pair in aheads for pair in value]):
        return False
    return all([value[at] in aheads[value[at - 1]] for at in range(len(value))])
