"""Stacks, lines and bubble passes that sort orders."""

from math import comb, factorial

from wiredorders.common import are_ascending, are_within, is_group, is_within
from wiredorders.errors import InvalidNumber
from wiredorders.nearnets import near_net_in
from wiredorders.nets import led_by
from wiredorders.orders import check_many, check_most, check_order
from wiredorders.shapes import hooks_in, shapes_within

MOST_STACKED = 9
MOST_NUMBER = 30


def stack_moves(order):
    """Return the moves by which a stack sorts an order, or None: things come out as soon as they can."""
    check_order(order)
    held = []
    given = 0
    moves = []
    for thing in order:
        held.append(thing)
        moves.append("I")
        while held and held[-1] == given:
            held.pop()
            given = given + 1
            moves.append("O")
    return None if held else "".join(moves)


def stack_bar(order):
    """Return any stack bar, or None."""
    check_order(order)
    for first, last in falling_pairs(order):
        for middle in range(first + 1, last):
            if order[first] < order[middle]:
                return (first, middle, last)
    return None


def falling_pairs(order):
    """Return the list of the ascending pairs of places the latter one of which has the lesser thing."""
    many = len(order)
    return [(one, other) for one in range(many) for other in range(one + 1, many) if order[other] < order[one]]


def is_stack_bar(order, value):
    """Tell whether any value is a stack bar."""
    check_order(order)
    if not is_group(value, 3, len(order) - 1):
        return False
    first, middle, last = [order[place] for place in value]
    return last < first < middle


def stack_pass(order):
    """Return the order in which the things come out by a stack pass."""
    check_order(order)
    return stack_passed(order)


def stack_passed(order):
    """Return the order in which the things come out by a stack pass."""
    held = []
    given = []
    for thing in order:
        while held and held[-1] < thing:
            given.append(held.pop())
        held.append(thing)
    return tuple(given + held[::-1])


def stack_passes(order):
    """Return the least number of stack passes that lead to the plain order."""
    check_order(order)
    passes = 0
    while not are_ascending(order):
        order = stack_passed(order)
        passes = passes + 1
    return passes


def bubble_pass(order):
    """Return the order behind a bubble pass."""
    check_order(order)
    return led_by(order, near_net_in(tuple(range(len(order) - 1))))


def bubble_passes(order):
    """Return the least number of bubble passes that lead to the plain order.

    Each one takes one greater thing away from ahead of each thing that has such.
    """
    check_order(order)
    return max([len([other for other in order[:place] if other > thing]) for place, thing in enumerate(order)])


def lines_needed(order):
    """Return the least number of lines that sort an order."""
    check_order(order)
    return max(lines_in(order)) + 1


def lines_in(order):
    """Return the list of, for each place, the first line possible: so many falling places lie ahead at most."""
    lines = []
    for place, thing in enumerate(order):
        lines.append(max([lines[at] + 1 for at in range(place) if order[at] > thing], default=0))
    return lines


def lines_way(order):
    """Return any way for as many lines as an order has need of."""
    check_order(order)
    return tuple(lines_in(order))


def falling_places(order):
    """Return any falling places, as many as can be."""
    check_order(order)
    lines = lines_in(order)
    places = [lines.index(max(lines))]
    for line in reversed(range(max(lines))):
        ahead = [at for at in range(places[-1]) if lines[at] == line and order[at] > order[places[-1]]]
        places.append(ahead[0])
    return tuple(places[::-1])


def is_lines_way(order, value):
    """Tell whether any value is a way for as many lines as an order has need of."""
    check_order(order)
    return is_way(order, value, max(lines_in(order)) + 1, falling_pairs(order))


def is_way(order, value, number, apart):
    """Tell whether any value is, for each place, one of so many lines or stacks, and unlike for places apart."""
    if not are_within(value, 0, number - 1) or len(value) != len(order):
        return False
    return all([value[one] != value[other] for one, other in apart])


def stacks_needed(order):
    """Return the least number of stacks that sort an order."""
    check_order(order)
    check_most(len(order), MOST_STACKED)
    return fewest_stacks(order)


def fewest_stacks(order):
    """Return the least number of stacks that sort an order."""
    number = 1
    while way_for(order, number) is None:
        number = number + 1
    return number


def way_for(order, number):
    """Return a way for so many stacks, or None: each place has its stack in turn, a new one only as the next one."""
    apart = {pair: True for pair in places_apart(order)}
    left = [()]
    while left:
        way = left.pop()
        place = len(way)
        if place == len(order):
            return way
        barred = [stack for at, stack in enumerate(way) if (at, place) in apart]
        stacks = range(min(number, max(way, default=-1) + 2))
        left.extend([way + (stack,) for stack in stacks if stack not in barred])
    return None


def places_apart(order):
    """Return the list of the pairs of places whose things one stack cannot take: with a further one they are a bar."""
    many = len(order)
    pairs = [(one, other) for one in range(many) for other in range(one + 1, many) if order[one] < order[other]]
    return [(one, other) for one, other in pairs if min(order[other:]) < order[one]]


def stacks_way(order, number):
    """Return any way for so many stacks, or None."""
    check_order(order)
    if not is_within(number, 1, MOST_STACKED):
        raise InvalidNumber("not an integer from 1 to 9")
    check_most(len(order), MOST_STACKED)
    return way_for(order, number)


def is_stacks_way(order, value):
    """Tell whether any value is a way for as many stacks as an order has need of."""
    check_order(order)
    check_most(len(order), MOST_STACKED)
    return is_way(order, value, fewest_stacks(order), places_apart(order))


def count_stacked(many):
    """Return how many orders of so many things a stack sorts."""
    check_many(many)
    return comb(2 * many, many) // (many + 1)


def check_number(value, low):
    """Raise InvalidNumber for any value that is no integer from a low one to 30."""
    if not is_within(value, low, MOST_NUMBER):
        raise InvalidNumber("not an integer up to 30")


def count_lined(many, number):
    """Return how many orders of so many things so many lines, or fewer, sort: those whose tables have no more lines.

    Turned, these have no longer lines; of each shape there are as many orders
    as pairs of numbered tables.
    """
    check_many(many)
    check_number(number, 1)
    count = 0
    for shape in shapes_within(many, number):
        hooks = 1
        for hook in hooks_in(shape):
            hooks = hooks * hook
        tables = factorial(many) // hooks
        count = count + tables * tables
    return count


def count_bubbled(many, number):
    """Return how many orders of so many things are plain behind so many bubble passes.

    Of each thing, as many greater ones stand ahead at most; an order is known
    by how many these are for each.
    """
    check_many(many)
    check_number(number, 0)
    count = 1
    for greater in range(many):
        count = count * (min(greater, number) + 1)
    return count
