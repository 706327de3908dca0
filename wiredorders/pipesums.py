"""Sums of products of variables, one for each thing, and the sums that tell of an order's pipes."""

from wiredorders.common import are_ascending, are_within, is_within
from wiredorders.errors import InvalidSum, InvalidValues
from wiredorders.orders import check_exchange, check_many, check_most, check_order
from wiredorders.pipes import row_picks

MOST_SUMMED = 7
MOST_PAIRS = 400
MOST_POWER = 60
MOST_VALUE = 1000


def is_pipe_sum(many, value):
    """Tell whether any value is a sum of so many things."""
    check_many(many)
    return is_sum_in(many, value)


def is_sum_in(many, value):
    """Tell whether any value is a sum of so many things, many being right."""
    if not isinstance(value, tuple) or len(value) > MOST_PAIRS or not all([is_term(many, pair) for pair in value]):
        return False
    return are_ascending([powers for powers, _ in value])


def is_term(many, value):
    """Tell whether any value is a pair of powers of so many variables and of a number that is not 0."""
    if not isinstance(value, tuple) or len(value) != 2:
        return False
    powers, number = value
    if not are_within(powers, 0, MOST_POWER) or len(powers) != many:
        return False
    return is_within(number, -10 ** 30, 10 ** 30) and number != 0


def check_sum(many, value):
    """Raise InvalidSum for any value that is no sum of so many things."""
    if not is_sum_in(many, value):
        raise InvalidSum("not a sum of so many things")


def order_sum(order):
    """Return the sum of an order."""
    check_order(order)
    check_most(len(order), MOST_SUMMED)
    return sum_told(sum_from(order, 0, {}))


def sum_told(numbers):
    """Return the sum in which powers have the numbers that a dict tells; those that have 0 are left out."""
    return tuple(sorted([(powers, numbers[powers]) for powers in numbers if numbers[powers] != 0]))


def sum_from(order, row, known):
    """Return the dict of how many pipes without crossings ahead of a row an order has, by their powers from the row on.

    It is noted in known by the order and the row.
    """
    if row == len(order):
        return {(): 1}
    if (order, row) not in known:
        numbers = {}
        for picked, left in row_picks(order, row):
            rest = sum_from(left, row + 1, known)
            for behind in rest:
                powers = (len(picked),) + behind
                numbers[powers] = numbers.get(powers, 0) + rest[behind]
        known[(order, row)] = numbers
    return known[(order, row)]


def sums_added(many, one_sum, other_sum):
    """Return the sum of both sums."""
    check_many(many)
    check_sum(many, one_sum)
    check_sum(many, other_sum)
    numbers = {powers: number for powers, number in one_sum}
    for powers, number in other_sum:
        numbers[powers] = numbers.get(powers, 0) + number
    return sum_told(numbers)


def sums_multiplied(many, one_sum, other_sum):
    """Return the product of both sums."""
    check_many(many)
    check_sum(many, one_sum)
    check_sum(many, other_sum)
    numbers = {}
    for powers, number in one_sum:
        for other_powers, other_number in other_sum:
            both = tuple([power + other for power, other in zip(powers, other_powers)])
            numbers[both] = numbers.get(both, 0) + number * other_number
    return sum_told(numbers)


def stepped_down(many, one_sum, exchange):
    """Return the step down of a sum by an exchange."""
    check_many(many)
    check_sum(many, one_sum)
    check_exchange(many, exchange)
    numbers = {}
    for powers, number in one_sum:
        one, other = powers[exchange], powers[exchange + 1]
        signed = number if one > other else -number
        # What x ** one * y ** other less y ** one * x ** other is, divided by x - y.
        for power in range(min(one, other), max(one, other)):
            behind = powers[:exchange] + (power, one + other - 1 - power) + powers[exchange + 2:]
            numbers[behind] = numbers.get(behind, 0) + signed
    return sum_told(numbers)


def sum_at(many, one_sum, values):
    """Return what a sum comes to if the variables are these values."""
    check_many(many)
    check_sum(many, one_sum)
    if not are_within(values, -MOST_VALUE, MOST_VALUE) or len(values) != many:
        raise InvalidValues("not a tuple of an integer from -1000 to 1000 for each thing")
    tables = [powers_up_to(value, MOST_POWER) for value in values]
    total = 0
    for powers, number in one_sum:
        worth = number
        for table, power in zip(tables, powers):
            worth = worth * table[power]
        total = total + worth
    return total


def powers_up_to(value, most):
    """Return the list of an integer's powers from 0 to the most."""
    powers = [1]
    for _ in range(most):
        powers.append(powers[-1] * value)
    return powers
