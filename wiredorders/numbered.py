"""Rising tables, and the numbered tables of a shape: how many, which, and by their falls."""

from math import gcd

from wiredorders.common import are_ascending, are_within, is_within
from wiredorders.errors import InvalidNumber, InvalidTable
from wiredorders.orders import check_most
from wiredorders.shapes import check_shape, columns_in, ends_in, hook_in, hooks_in, is_shape

GREATEST = 1000000
MOST_LISTED = 9
MOST_BY_FALLS = 20


def is_rising(value):
    """Tell whether any value is a rising table."""
    if not isinstance(value, tuple) or not all([are_within(line, 0, GREATEST) for line in value]):
        return False
    if not is_shape(shape_in(value)) or not all([are_ascending(line) for line in value]):
        return False
    pairs = [(value[at], value[at + 1]) for at in range(len(value) - 1)]
    return all([above < below for line, next_line in pairs for above, below in zip(line, next_line)])


def shape_in(table):
    """Return the tuple of the lengths of a table's lines."""
    return tuple([len(line) for line in table])


def integers_in(table):
    """Return the list of all integers of a table, line by line."""
    return [integer for line in table for integer in line]


def is_numbered(value):
    """Tell whether any value is a numbered table."""
    if not is_rising(value):
        return False
    integers = sorted(integers_in(value))
    return integers == list(range(len(integers)))


def check_table(value):
    """Raise InvalidTable for any value that is no numbered table."""
    if not is_numbered(value):
        raise InvalidTable("not a numbered table")


def table_turned(table):
    """Return a numbered table turned."""
    check_table(table)
    columns = columns_in(shape_in(table))
    return tuple([tuple([table[line][spot] for line in range(length)]) for spot, length in enumerate(columns)])


def table_falls(table):
    """Return the ascending list of the falls of a numbered table."""
    check_table(table)
    lines = lines_in(table)
    return [integer for integer in range(len(lines) - 1) if lines[integer] < lines[integer + 1]]


def lines_in(table):
    """Return the list of the lines in which the integers from 0 on of a numbered table stand."""
    lines = [0 for _ in integers_in(table)]
    for at, line in enumerate(table):
        for integer in line:
            lines[integer] = at
    return lines


def table_by_lines(many, lines):
    """Return the table of so many lines in which the integers from 0 on stand in these lines."""
    rows = [[] for _ in range(many)]
    for integer, line in enumerate(lines):
        rows[line].append(integer)
    return tuple([tuple(row) for row in rows])


def count_numbered(shape):
    """Return how many numbered tables of a shape there are."""
    check_shape(shape)
    return count_tables(shape)


def count_tables(shape):
    """Return the product of the integers from 1 to a shape's size, divided by that of its hooks.

    All hooks are divided out ahead of multiplying, for smaller numbers.
    """
    factors = list(range(1, sum(shape) + 1))
    for hook in hooks_in(shape):
        left = hook
        for at in range(len(factors)):
            if left == 1:
                break
            common = gcd(left, factors[at])
            factors[at] = factors[at] // common
            left = left // common
    count = 1
    for factor in factors:
        count = count * factor
    return count


def numbered_tables(shape):
    """Return the ascending list of all numbered tables of a shape."""
    check_shape(shape)
    check_most(sum(shape), MOST_LISTED)
    return sorted([table_by_lines(len(shape), lines) for lines in all_lines(shape)])


def all_lines(shape):
    """Return the list of, for each numbered table of a shape, the tuple of its integers' lines."""
    if sum(shape) == 0:
        return [()]
    return [lines + (end,) for end in ends_in(shape) for lines in all_lines(shape_without(shape, end))]


def shape_without(shape, line):
    """Return the lengths of a shape's lines without the last cell of one."""
    return shape[:line] + (shape[line] - 1,) + shape[line + 1:]


def count_without(shape, columns, line, count):
    """Return how many numbered tables there are without the last cell of a line, with it being the count.

    All hooks in this line and in the cell's column become less by 1.
    """
    spot = shape[line] - 1
    hooks = [hook_in(shape, columns, line, at) for at in range(spot)]
    hooks = hooks + [hook_in(shape, columns, at, spot) for at in range(line)]
    top, below = 1, sum(shape)
    for hook in hooks:
        top, below = top * hook, below * (hook - 1)
        common = gcd(top, below)
        top, below = top // common, below // common
    return count // below * top


def table_number(table):
    """Return the number of a numbered table."""
    check_table(table)
    shape = shape_in(table)
    columns = columns_in(shape)
    count = count_tables(shape)
    number = 0
    for line in lines_in(table)[::-1]:
        for end in ends_in(shape):
            if end < line:
                number = number + count_without(shape, columns, end, count)
        count = count_without(shape, columns, line, count)
        columns = shape_without(columns, shape[line] - 1)
        shape = shape_without(shape, line)
    return number


def numbered_with(shape, number):
    """Return the numbered table of a shape with a number."""
    check_shape(shape)
    count = count_tables(shape)
    if not is_within(number, 0, count - 1):
        raise InvalidNumber("there are not so many numbered tables")
    many = len(shape)
    columns = columns_in(shape)
    lines = []
    for _ in range(sum(shape)):
        ends = ends_in(shape)
        at = 0
        rest = count_without(shape, columns, ends[at], count)
        while number >= rest:
            number = number - rest
            at = at + 1
            rest = count_without(shape, columns, ends[at], count)
        count = rest
        columns = shape_without(columns, shape[ends[at]] - 1)
        shape = shape_without(shape, ends[at])
        lines.append(ends[at])
    return table_by_lines(many, lines[::-1])


def count_by_falls(shape):
    """Return the tuple of how many numbered tables have falls, each more by 1, that come to 0, to 1 and so on.

    These are the numbers of the polynomial that x to the sum of all cells'
    lines is, times 1 - x ** k for each k from 1 to the size, divided by
    1 - x ** hook for each cell.
    """
    check_shape(shape)
    size = sum(shape)
    check_most(size, MOST_BY_FALLS)
    counts = [0 for line, length in enumerate(shape) for _ in range(line * length)] + [1]
    for power in range(1, size + 1):
        counts = less_shifted(counts, power)
    for hook in hooks_in(shape):
        counts = parted_by_shift(counts, hook)
    return tuple(counts)


def less_shifted(counts, power):
    """Return the numbers of a polynomial times 1 - x ** power."""
    shift = [0 for _ in range(power)]
    return [one - other for one, other in zip(counts + shift, shift + counts)]


def parted_by_shift(counts, power):
    """Return the numbers of a polynomial divided by 1 - x ** power, by which it can be divided."""
    parted = []
    for at in range(len(counts) - power):
        parted.append(counts[at] + parted[at - power] if at >= power else counts[at])
    return parted
