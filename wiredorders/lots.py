"""Rising and falling lots of an order, and its longest rising tuples."""

from wiredorders.common import are_ascending, are_within, is_within
from wiredorders.errors import InvalidNumber
from wiredorders.inserted import are_unlike, put_in_line, tables_by
from wiredorders.numbered import shape_in
from wiredorders.orders import check_order, opposite_in
from wiredorders.shapes import columns_in

MOST_LOTS = 30
START = ("start", 0)
END = ("end", 0)


def are_rising(order, value):
    """Tell whether any value is rising lots of an order."""
    check_order(order)
    return are_lots(order, value) and all([are_ascending(lot) for lot in value])


def are_falling(order, value):
    """Tell whether any value is falling lots of an order."""
    check_order(order)
    return are_lots(order, value) and all([are_ascending(lot[::-1]) for lot in value])


def are_lots(order, value):
    """Tell whether any value is a tuple of tuples of things, all unlike, that stand at rising places in each."""
    if not isinstance(value, tuple) or not all([are_within(lot, 0, len(order) - 1) for lot in value]):
        return False
    if () in value or not are_unlike([thing for lot in value for thing in lot]):
        return False
    places = opposite_in(order)
    return all([are_ascending([places[thing] for thing in lot]) for lot in value])


def check_lots(value):
    """Raise InvalidNumber for any value that is no number of lots."""
    if not is_within(value, 1, MOST_LOTS):
        raise InvalidNumber("not an integer from 1 to 30")


def most_rising(order, lots):
    """Return the greatest number of things in so many rising lots, or fewer."""
    check_order(order)
    check_lots(lots)
    return sum(shape_of_tables(order)[:lots])


def most_falling(order, lots):
    """Return the greatest number of things in so many falling lots, or fewer."""
    check_order(order)
    check_lots(lots)
    return sum(columns_in(shape_of_tables(order))[:lots])


def shape_of_tables(order):
    """Return the shape of the tables of an order."""
    return shape_in(tables_by(order, put_in_line)[0])


def rising_lots(order, lots):
    """Return any rising lots, so many or fewer, with as many things as there can be.

    They are ways from the start to the end by way of things, no thing on two
    of them. The cheapest further way may go back on edges of those ahead,
    which parts these and joins them anew.
    """
    check_order(order)
    check_lots(lots)
    edges = edges_over(order)
    for _ in range(lots):
        edges = edges_turned(edges, cheapest_way(edges))
    return lots_on(order, edges)


def edges_over(order):
    """Return the dict of the costs of all edges: from the start into a thing, out of it, and on, or to the end."""
    edges = {}
    for place, thing in enumerate(order):
        edges[(START, ("in", thing))] = 0
        edges[(("in", thing), ("out", thing))] = -1
        edges[(("out", thing), END)] = 0
        for other in order[place + 1:]:
            if thing < other:
                edges[(("out", thing), ("in", other))] = 0
    return edges


def cheapest_way(edges):
    """Return the list of the edges of a cheapest way from the start to the end, or none if it costs 0 or more."""
    costs = {START: 0}
    came = {}
    changed = True
    while changed:
        changed = False
        for edge in edges:
            one, other = edge
            if one in costs and costs[one] + edges[edge] < costs.get(other, 1):
                costs[other] = costs[one] + edges[edge]
                came[other] = edge
                changed = True
    way = []
    at = END
    while costs.get(END, 0) < 0 and at != START:
        way.append(came[at])
        at = came[at][0]
    return way


def edges_turned(edges, way):
    """Return the edges with those of a way turned: going back on one of them takes it out again."""
    turned = {edge: edges[edge] for edge in edges if edge not in way}
    for one, other in way:
        turned[(other, one)] = -edges[(one, other)]
    return turned


def lots_on(order, edges):
    """Return the tuple of the rising lots to which the turned edges lead."""
    first = [thing for thing in order if (("in", thing), START) in edges]
    following = {thing: other for thing in order for other in order if (("in", other), ("out", thing)) in edges}
    lots = []
    for thing in first:
        lot = [thing]
        while lot[-1] in following:
            lot.append(following[lot[-1]])
        lots.append(tuple(lot))
    return tuple(lots)


def longest_rising(order):
    """Return the first one, in ascending order, of the longest tuples that are a rising lot by themselves."""
    check_order(order)
    lengths = lengths_from(order)
    lot = []
    rest = order
    for length in reversed(range(1, max(list(lengths.values())) + 1)):
        lot.append(min([thing for thing in rest if lengths[thing] == length]))
        rest = [thing for thing in rest[rest.index(lot[-1]):] if thing > lot[-1]]
    return tuple(lot)


def lengths_from(order):
    """Return the dict of how many things a longest rising lot has that begins with a thing, for each."""
    lengths = {}
    for thing in order[::-1]:
        lengths[thing] = 1 + max([lengths[other] for other in lengths if other > thing], default=0)
    return lengths


def count_longest(order):
    """Return how many of the longest tuples that are a rising lot by themselves there are."""
    check_order(order)
    lengths = lengths_from(order)
    counts = {}
    for thing in order[::-1]:
        following = [counts[other] for other in counts if other > thing and lengths[other] + 1 == lengths[thing]]
        counts[thing] = sum(following) if following else 1
    longest = max(list(lengths.values()))
    return sum([counts[thing] for thing in order if lengths[thing] == longest])
