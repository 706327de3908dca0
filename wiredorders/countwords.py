"""The words for counts: what they tell of an order, and of all orders of so many things.

A polynomial is a list of its numbers here, from the power 0 on.
"""

from math import comb

from wiredorders.codes import orders
from wiredorders.errors import InvalidWord
from wiredorders.orders import check_many, check_most, check_order
from wiredorders.overtakings import falls_in, overtakings_in
from wiredorders.rings import rings_in

MOST_LISTED = 6


def size_told(order):
    """Return how many overtakings an order has."""
    return len(overtakings_in(order))


def falls_told(order):
    """Return how many falls an order has."""
    return len(falls_in(order))


def weight_told(order):
    """Return the sum of an order's falls, each 1 more."""
    return sum([fall + 1 for fall in falls_in(order)])


def rings_told(order):
    """Return how many rings an order has."""
    return len(rings_in(order))


def tops_told(order):
    """Return how many things are greater than all at lesser places."""
    return len([place for place, thing in enumerate(order) if thing == max(order[:place + 1])])


def stills_told(order):
    """Return how many things are at the place with their own number."""
    return len([place for place, thing in enumerate(order) if thing == place])


def overs_told(order):
    """Return how many things are at a place with a lesser number."""
    return len([place for place, thing in enumerate(order) if thing > place])


def multiplied(factors):
    """Return the product of a list of polynomials."""
    told = [1]
    for factor in factors:
        longer = [0 for _ in range(len(told) + len(factor) - 1)]
        for at, number in enumerate(told):
            for power, other in enumerate(factor):
                longer[at + power] = longer[at + power] + number * other
        told = longer
    return told


def ones(many):
    """Return the polynomial of so many numbers 1."""
    return [1 for _ in range(many)]


def turns(many):
    """Return the polynomial of so many numbers, 1 and -1 in turn."""
    return [1 if power % 2 == 0 else -1 for power in range(many)]


def sizes(many):
    """Return the spread of the sizes, and of the weights.

    The greatest of so many things can stand behind all others, or ahead of
    any number of them.
    """
    return multiplied([ones(things) for things in range(1, many + 1)])


def sizes_signed(many):
    """Return the signed spread of the sizes: each overtaking turns the sign."""
    return multiplied([turns(things) for things in range(1, many + 1)])


def weights_signed(many):
    """Return the signed spread of the weights: that of the sizes, but in every other factor no sign turns."""
    return multiplied([turns(things) if things % 2 == 0 else ones(things) for things in range(1, many + 1)])


def falls_spread(many):
    """Return the spread of the falls, and of the overs.

    The greatest of so many things makes a fall more but where it comes into
    a fall, or to the end.
    """
    told = [1]
    for things in range(2, many + 1):
        wide = [0] + told + [0]
        told = [(falls + 1) * wide[falls + 1] + (things - falls) * wide[falls] for falls in range(things)]
    return told


def falls_signed(many):
    """Return the signed spread of the falls, which comes of the spread for half as many things."""
    return multiplied([falls_spread((many + 1) // 2)] + [[1, -1] for _ in range(many // 2)])


def overs_signed(many):
    """Return the signed spread of the overs: a determinant with x above the diagonal, and else 1."""
    return multiplied([[1, -1] for _ in range(many - 1)])


def rings_spread(many):
    """Return the spread of the rings, and of the tops: a further thing is a ring, or comes behind any other one."""
    return multiplied([[things, 1] for things in range(many)])


def rings_signed(many):
    """Return the signed spread of the rings: the sign turns with each further thing that is no ring."""
    return multiplied([[-things, 1] for things in range(many)])


def tops_signed(many):
    """Return the signed spread of the tops.

    At each place a top stands, or a thing with 1, 2 and so on greater ones
    ahead, up to as many as there are; these with unlike signs go up in
    nothing.
    """
    return multiplied([[-1, 1] if place % 2 == 1 else [0, 1] for place in range(many)])


def stills_spread(many):
    """Return the spread of the stills: all other things are at no place with their own number."""
    unstill = [1]
    for things in range(1, many + 1):
        unstill.append(things * unstill[-1] + (1 if things % 2 == 0 else -1))
    return [comb(many, stills) * unstill[many - stills] for stills in range(many + 1)]


def stills_signed(many):
    """Return the signed spread of the stills: a determinant with x on the diagonal, and else 1."""
    return multiplied([[many - 1, 1]] + [[-1, 1] for _ in range(many - 1)])


NUMBERS = {
    "size": size_told, "falls": falls_told, "weight": weight_told, "rings": rings_told, "tops": tops_told,
    "stills": stills_told, "overs": overs_told,
}
SPREADS = {
    "size": sizes, "falls": falls_spread, "weight": sizes, "rings": rings_spread, "tops": rings_spread,
    "stills": stills_spread, "overs": falls_spread,
}
SIGNED = {
    "size": sizes_signed, "falls": falls_signed, "weight": weights_signed, "rings": rings_signed, "tops": tops_signed,
    "stills": stills_signed, "overs": overs_signed,
}


def check_word(value):
    """Raise InvalidWord for any value that is no word for counts."""
    if not isinstance(value, str) or value not in NUMBERS:
        raise InvalidWord("not a word for counts")


def word_number(word, order):
    """Return what a word tells of an order."""
    check_word(word)
    check_order(order)
    told = NUMBERS[word]
    return told(order)


def spread(word, many):
    """Return the spread by a word, of so many things."""
    check_word(word)
    check_many(many)
    told = SPREADS[word]
    return tuple(told(many))


def signed_spread(word, many):
    """Return the signed spread by a word, of so many things."""
    check_word(word)
    check_many(many)
    told = SIGNED[word]
    return tuple(told(many))


def both_spread(one_word, other_word, many):
    """Return the table of how many orders have each number by the one word, and each by the other one."""
    check_word(one_word)
    check_word(other_word)
    check_many(many)
    check_most(many, MOST_LISTED)
    one_told = NUMBERS[one_word]
    other_told = NUMBERS[other_word]
    pairs = [(one_told(order), other_told(order)) for order in orders(many)]
    width = max([other for _, other in pairs]) + 1
    table = [[0 for _ in range(width)] for _ in range(max([one for one, _ in pairs]) + 1)]
    for one, other in pairs:
        table[one][other] = table[one][other] + 1
    return tuple([tuple(line) for line in table])
