"""Numbered tables led on, back and over, and what is left of them."""

from wiredorders.common import is_within
from wiredorders.errors import InvalidNumber
from wiredorders.numbered import check_table, integers_in, shape_in, table_by_lines
from wiredorders.orders import check_most

MOST_LED_ROUND = 12


def led_table(table):
    """Return a numbered table led on."""
    check_table(table)
    return led_in(table)


def led_in(table):
    """Return a numbered table led on."""
    if table == ():
        return ()
    lines, hole = slid(table)
    lines[hole[0]][hole[1]] = sum(shape_in(table))
    return table_less(lines, 1)


def slid(table):
    """Return the pair of a rising table without its first integer, as a list of lists, and of the hole.

    At the hole stands what has come to the cell ahead of it.
    """
    lines = [list(line) for line in table]
    hole = (0, 0)
    beside = cells_after(lines, hole)
    while beside:
        integer, cell = min(beside)
        lines[hole[0]][hole[1]] = integer
        hole = cell
        beside = cells_after(lines, hole)
    return lines, hole


def cells_after(lines, cell):
    """Return the list of the pairs of the integer, and the cell, behind a cell and below it, where there are such."""
    line, spot = cell
    found = []
    if spot + 1 < len(lines[line]):
        found.append((lines[line][spot + 1], (line, spot + 1)))
    if line + 1 < len(lines) and spot < len(lines[line + 1]):
        found.append((lines[line + 1][spot], (line + 1, spot)))
    return found


def table_less(lines, number):
    """Return the table of these lines with all integers lessened by a number."""
    return tuple([tuple([integer - number for integer in line]) for line in lines])


def led_back(table):
    """Return the numbered table that is this one, if it is led on."""
    check_table(table)
    if table == ():
        return ()
    lines = [list(line) for line in table]
    hole = last_cell(table)
    while hole != (0, 0):
        integer, cell = max(cells_ahead(lines, hole))
        lines[hole[0]][hole[1]] = integer
        hole = cell
    lines[0][0] = -1
    return table_less(lines, -1)


def last_cell(table):
    """Return the cell of the greatest integer of a numbered table."""
    greatest = sum(shape_in(table)) - 1
    return [(at, line.index(greatest)) for at, line in enumerate(table) if greatest in line][0]


def cells_ahead(lines, cell):
    """Return the list of the pairs of the integer, and the cell, ahead of a cell and above it, where there are such."""
    line, spot = cell
    cells = [(line, spot - 1)] if spot > 0 else []
    if line > 0:
        cells.append((line - 1, spot))
    return [(lines[each[0]][each[1]], each) for each in cells]


def without_first(table):
    """Return the pair of a rising table without its first integer and the hole, and of the hole's line."""
    lines, hole = slid(table)
    lines[hole[0]].pop()
    return [line for line in lines if line], hole[0]


def table_over(table):
    """Return a numbered table led over."""
    check_table(table)
    left = table
    holes = []
    for _ in integers_in(table):
        left, line = without_first(left)
        holes.append(line)
    return table_by_lines(len(table), holes[::-1])


def rest_of(table, number):
    """Return the rest of a numbered table from a number."""
    check_table(table)
    if not is_within(number, 0, sum(shape_in(table))):
        raise InvalidNumber("not an integer from 0 to the size of the table")
    left = table
    for _ in range(number):
        left = without_first(left)[0]
    return table_less(left, number)


def steps_round(table):
    """Return the least number from 1 on of times that a numbered table has to be led on to be the same."""
    check_table(table)
    check_most(sum(shape_in(table)), MOST_LED_ROUND)
    steps = 1
    led = led_in(table)
    while led != table:
        steps = steps + 1
        led = led_in(led)
    return steps
