"""Crossings of a drawing, the wires that cross there, and the courses of wires."""

from wiredorders.common import are_within, is_within
from wiredorders.drawings import MOST_COLUMNS, check_drawing, check_wires, drawn_in, row_in
from wiredorders.errors import InvalidCrossing, InvalidThing
from wiredorders.rowsteps import met_in


def crossings(drawing):
    """Return the ascending list of all crossings."""
    check_drawing(drawing)
    return crossings_in(drawing)


def crossings_in(drawing):
    """Return the crossings in the order in which the row of the drawing has them."""
    return [(at, exchange) for at, column in enumerate(drawing[1]) for exchange in column]


def check_crossing(drawing, value):
    """Raise InvalidCrossing for any value that is no crossing of a drawing."""
    if not are_within(value, 0, MOST_COLUMNS) or value not in crossings_in(drawing):
        raise InvalidCrossing("not a crossing of the drawing")


def wires_at(drawing, crossing):
    """Return the ascending pair of the wires that cross at a crossing."""
    check_drawing(drawing)
    check_crossing(drawing, crossing)
    return met_in(drawing[0], row_in(drawing))[crossings_in(drawing).index(crossing)]


def course(drawing, wire):
    """Return the tuple of the wires that a wire crosses, from left to right."""
    check_drawing(drawing)
    if not is_within(wire, 0, drawing[0] - 1):
        raise InvalidThing("not a wire of the drawing")
    pairs = met_in(drawing[0], row_in(drawing))
    return tuple([sum(pair) - wire for pair in pairs if wire in pair])


def drawing_by_courses(many, value):
    """Return the drawing of so many wires whose courses any value is, or None."""
    check_wires(many)
    if not are_courses(many, value):
        return None
    row = row_by_courses(many, value)
    if row is None:
        return None
    drawing = drawn_in(many, row)
    return drawing if len(drawing[1]) <= MOST_COLUMNS else None


def are_courses(many, value):
    """Tell whether any value is a tuple of a tuple of wires for each of so many wires."""
    if not isinstance(value, tuple) or len(value) != many:
        return False
    return all([are_within(each, 0, many - 1) for each in value])


def row_by_courses(many, courses):
    """Return a row whose wires have just these courses, or None.

    Neighbours that are each other's next cross. They stay so until they do,
    so it is all one which of them cross first.
    """
    wires = list(range(many))
    done = [0 for _ in wires]
    row = []
    ready = ready_in(wires, courses, done)
    while ready:
        for at in ready:
            wires[at], wires[at + 1] = wires[at + 1], wires[at]
            for wire in wires[at:at + 2]:
                done[wire] = done[wire] + 1
            row.append(at)
        ready = ready_in(wires, courses, done)
    return row if done == [len(each) for each in courses] else None


def ready_in(wires, courses, done):
    """Return the places at which the wire there, and the next one, are each other's next."""
    coming = [courses[wire][done[wire]:done[wire] + 1] for wire in wires]
    places = range(len(wires) - 1)
    return [at for at in places if coming[at] == (wires[at + 1],) and coming[at + 1] == (wires[at],)]
