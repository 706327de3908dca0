"""Paths of a drawing: the ways on which one wire more can come from the top down to 0."""

from wiredorders.common import are_within, is_within
from wiredorders.drawings import MOST_COLUMNS, MOST_WIRES, check_drawing, drawn_in, row_in
from wiredorders.errors import InvalidDrawing, InvalidPath, InvalidThing
from wiredorders.orders import check_most
from wiredorders.rowsteps import met_in

MOST_WIRES_LISTED = 6
MOST_CROSSINGS_LISTED = 20


def count_edges(drawing, height):
    """Return how many edges there are at a height."""
    check_drawing(drawing)
    if not is_within(height, 0, drawing[0] - 1):
        raise InvalidThing("not a height of the drawing")
    return 1 + len(parting(drawing, height))


def parting(drawing, height):
    """Return the list of the exchanges, from left to right, that part the edges at a height."""
    return [exchange for exchange in row_in(drawing) if exchange == height - 1 or exchange == height]


def lefts_at(drawing, height, exchange):
    """Return the list of how many crossings of an exchange lie to the left of each edge at a height."""
    lefts = [0]
    for other in parting(drawing, height):
        lefts.append(lefts[-1] + 1 if other == exchange else lefts[-1])
    return lefts


def edges_by_left(drawing, height):
    """Return the lists of the edges at a height with as many crossings of this exchange to the left."""
    edges = {}
    for edge, left in enumerate(lefts_at(drawing, height, height)):
        edges[left] = edges.get(left, []) + [edge]
    return edges


def paths(drawing):
    """Return the ascending list of all paths."""
    check_drawing(drawing)
    check_most(drawing[0], MOST_WIRES_LISTED)
    check_most(len(row_in(drawing)), MOST_CROSSINGS_LISTED)
    top = drawing[0] - 1
    found = [(edge,) for edge in range(count_edges(drawing, top))]
    for height in reversed(range(top)):
        lefts = lefts_at(drawing, height + 1, height)
        edges = edges_by_left(drawing, height)
        found = [path + (edge,) for path in found for edge in edges[lefts[path[-1]]]]
    return found


def count_paths(drawing):
    """Return how many paths there are."""
    check_drawing(drawing)
    top = drawing[0] - 1
    ways = [1 for _ in range(count_edges(drawing, top))]
    for height in reversed(range(top)):
        by_left = {}
        for edge, left in enumerate(lefts_at(drawing, height + 1, height)):
            by_left[left] = by_left.get(left, 0) + ways[edge]
        ways = [by_left[left] for left in lefts_at(drawing, height, height)]
    return sum(ways)


def is_path(drawing, value):
    """Tell whether any value is a path of a drawing."""
    many = drawing[0]
    if not are_within(value, 0, len(row_in(drawing))) or len(value) != many:
        return False
    edges = value[::-1]
    if not all([edge <= len(parting(drawing, height)) for height, edge in enumerate(edges)]):
        return False
    for height in range(many - 1):
        above = lefts_at(drawing, height + 1, height)[edges[height + 1]]
        if lefts_at(drawing, height, height)[edges[height]] != above:
            return False
    return True


def with_path(drawing, path):
    """Return the drawing with a path."""
    check_drawing(drawing)
    if not is_path(drawing, path):
        raise InvalidPath("not a path of the drawing")
    many = drawing[0]
    check_most(many + 1, MOST_WIRES)
    ahead, behind = parted_by(drawing, path)
    row = ahead + list(reversed(range(many))) + [exchange + 1 for exchange in behind]
    longer = drawn_in(many + 1, row)
    check_most(len(longer[1]), MOST_COLUMNS)
    return longer


def parted_by(drawing, path):
    """Return the lists of the exchanges of the crossings to the left, and to the right, of a path."""
    left = [lefts_at(drawing, height, height)[edge] for height, edge in enumerate(path[::-1])]
    ahead = []
    behind = []
    for exchange in row_in(drawing):
        if left[exchange] > 0:
            left[exchange] = left[exchange] - 1
            ahead.append(exchange)
        else:
            behind.append(exchange)
    return ahead, behind


def path_parted(drawing):
    """Return the drawing without its greatest wire and the path of this there, or None."""
    check_drawing(drawing)
    wire = drawing[0] - 1
    if wire == 0:
        raise InvalidDrawing("a drawing of one wire")
    crossed = [sum(pair) - wire for pair in met_in(drawing[0], row_in(drawing)) if wire in pair]
    if sorted(crossed) != list(range(wire)):
        return None
    return without_wire(drawing, wire)


def without_wire(drawing, wire):
    """Return the drawing without a wire that comes from the top down to 0, and the path of this."""
    height = wire
    row = []
    left = [0 for _ in range(wire + 1)]
    for exchange in row_in(drawing):
        if exchange == height - 1:
            height = exchange
        elif exchange < height:
            row.append(exchange)
            left[exchange] = left[exchange] + 1
        else:
            row.append(exchange - 1)
    # At each height, the crossings of both exchanges that part its edges lie to the left.
    path = [left[0]] + [left[at - 1] + left[at] for at in range(1, wire)]
    return drawn_in(wire, row), tuple(path[::-1])
