"""Products of the sums of orders with variables, and sums told by those of orders."""

from wiredorders.codes import order_coded
from wiredorders.errors import InvalidSum, NoFall
from wiredorders.orders import MOST_THINGS, check_many, check_most, check_order
from wiredorders.overtakings import falls_in
from wiredorders.pipes import check_place
from wiredorders.pipesums import MOST_SUMMED, is_sum_in, sum_from
from wiredorders.strongly import exchanged, is_step


def orders_up(order, place):
    """Return the ascending list of the orders whose sums come to an order's, times the variables 0 to place, added.

    They come by the strong steps up that exchange a thing at one of these
    places with one behind them.
    """
    check_order(order)
    check_place(len(order), place)
    check_most(len(order) + 1, MOST_THINGS)
    longer = order + (len(order),)
    pairs = [(early, late) for early in range(place + 1) for late in range(place + 1, len(longer))]
    return sorted([exchanged(longer, early, late) for early, late in pairs if is_step(longer, early, late)])


def fall_step(order):
    """Return the triple (place, other, list) of an order's last fall, and of the orders whose sums tell its own."""
    check_order(order)
    falls = falls_in(order)
    if not falls:
        raise NoFall("the order has no fall")
    place = falls[-1]
    late = max([at for at in range(place, len(order)) if order[at] < order[place]])
    other = exchanged(order, place, late)
    behind = [exchanged(other, early, place) for early in range(place) if is_step(other, early, place)]
    return (place, other, sorted(behind))


def in_orders(many, one_sum):
    """Return the ascending list of the pairs of an order, and of how often its sum goes into a narrow sum."""
    check_many(many)
    check_narrow(many, one_sum)
    check_most(many, MOST_SUMMED)
    numbers = {powers: number for powers, number in one_sum}
    known = {}
    found = []
    # Read from their end, the greatest powers of an order's sum are its code, with the number 1.
    for powers in codes_falling(many):
        number = numbers.get(powers, 0)
        if number != 0:
            order = order_coded(powers)
            found.append((order, number))
            less = sum_from(order, 0, known)
            for other in less:
                numbers[other] = numbers.get(other, 0) - number * less[other]
    return sorted(found)


def check_narrow(many, value):
    """Raise InvalidSum for any value that is no narrow sum of so many things."""
    if not is_sum_in(many, value) or not all([is_narrow(many, powers) for powers, _ in value]):
        raise InvalidSum("not a narrow sum of so many things")


def is_narrow(many, powers):
    """Tell whether each power is at most as much as its thing is from the greatest one."""
    return all([power < many - thing for thing, power in enumerate(powers)])


def codes_falling(many):
    """Return the list of all codes of so many things: the greatest ones, read from their end, come first."""
    codes = [()]
    for place in reversed(range(many)):
        codes = [(number,) + rest for rest in codes for number in reversed(range(many - place))]
    return codes
