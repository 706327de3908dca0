"""Shapes of tables: their cells, hooks and stairs, and how many there are."""

from wiredorders.common import are_within, is_integer, is_within
from wiredorders.errors import InvalidCell, InvalidNumber, InvalidShape
from wiredorders.orders import check_many, check_most

MOST_CELLS = 450
MOST_LISTED = 20


def is_shape(value):
    """Tell whether any value is a shape."""
    if not are_within(value, 1, MOST_CELLS) or sum(value) > MOST_CELLS:
        return False
    return all([value[at] >= value[at + 1] for at in range(len(value) - 1)])


def check_shape(value):
    """Raise InvalidShape for any value that is no shape."""
    if not is_shape(value):
        raise InvalidShape("not a shape")


def shape_turned(shape):
    """Return the turned shape."""
    check_shape(shape)
    return columns_in(shape)


def columns_in(shape):
    """Return the tuple of the lengths of a shape's columns."""
    spots = range(max(shape, default=0))
    return tuple([len([length for length in shape if length > spot]) for spot in spots])


def hook_at(shape, cell):
    """Return the hook of a cell of a shape."""
    check_shape(shape)
    if not is_cell(shape, cell):
        raise InvalidCell("not a cell of the shape")
    return hook_in(shape, columns_in(shape), cell[0], cell[1])


def is_cell(shape, value):
    """Tell whether any value is a cell of a shape."""
    if not isinstance(value, tuple) or len(value) != 2:
        return False
    line, spot = value
    return is_within(line, 0, len(shape) - 1) and is_integer(spot) and 0 <= spot < shape[line]


def hook_in(shape, columns, line, spot):
    """Return the hook of a cell, the lengths of all lines and columns being told."""
    return shape[line] - spot + columns[spot] - line - 1


def hooks_in(shape):
    """Return the list of the hooks of all cells."""
    columns = columns_in(shape)
    return [hook_in(shape, columns, line, spot) for line, length in enumerate(shape) for spot in range(length)]


def ends_in(shape):
    """Return the ascending list of the lines whose last cell can go; lines of no cells may stand last."""
    lengths = list(shape) + [0]
    return [line for line in range(len(shape)) if lengths[line] > lengths[line + 1]]


def shapes_above(shape):
    """Return the ascending list of all shapes with one cell more that have all cells of a shape."""
    check_shape(shape)
    # A shape of the greatest size has none that is still a shape.
    check_most(sum(shape) + 1, MOST_CELLS)
    lengths = shape + (0,)
    lines = [line for line in range(len(lengths)) if line == 0 or lengths[line - 1] > lengths[line]]
    return sorted([shape[:line] + (lengths[line] + 1,) + shape[line + 1:] for line in lines])


def shapes_with(size):
    """Return the ascending list of all shapes of a size."""
    if not is_within(size, 0, MOST_LISTED):
        raise InvalidNumber("not an integer from 0 to 20")
    return shapes_within(size, size)


def shapes_within(size, longest):
    """Return the ascending list of all shapes of a size with no line longer than the longest."""
    if size == 0:
        return [()]
    lengths = range(1, min(size, longest) + 1)
    return [(length,) + rest for length in lengths for rest in shapes_within(size - length, length)]


def count_shapes(size):
    """Return how many shapes of a size there are."""
    if not is_within(size, 0, MOST_CELLS):
        raise InvalidNumber("not an integer from 0 to 450")
    counts = [1] + [0 for _ in range(size)]
    for length in range(1, size + 1):
        for cells in range(length, size + 1):
            counts[cells] = counts[cells] + counts[cells - length]
    return counts[size]


def stair(many):
    """Return the stair of so many things."""
    check_many(many)
    return stair_in(many)


def stair_in(many):
    """Return the shape of one less than there are things, two less, and so on down to 1."""
    return tuple(reversed(range(1, many)))
