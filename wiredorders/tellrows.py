"""The least rows of an order of which facts are told."""

from wiredorders.common import is_group, is_within
from wiredorders.errors import InvalidFacts, InvalidPairs, InvalidRow
from wiredorders.leastrows import is_row_of, rows_in
from wiredorders.orders import check_most, check_order
from wiredorders.overtakings import overtakings_in
from wiredorders.rowsteps import met_in

MOST_FACTS = 8
MOST_THINGS_TOLD = 5


def is_overtaking(order, value):
    """Tell whether any value is an overtaking of an order."""
    return is_group(value, 2, len(order) - 1) and value in overtakings_in(order)


def are_facts(order, value):
    """Tell whether any value is row facts of an order."""
    if not isinstance(value, tuple) or len(value) > MOST_FACTS:
        return False
    return all([is_fact(order, fact) for fact in value])


def is_fact(order, value):
    """Tell whether any value is one row fact of an order."""
    if not isinstance(value, tuple) or len(value) != 4:
        return False
    word, one, other, truth = value
    if not isinstance(word, str) or not isinstance(truth, bool):
        return False
    if word == "ahead":
        return are_unlike(order, one, other)
    if not is_within(one, 0, len(overtakings_in(order)) - 1):
        return False
    if word == "does":
        return is_within(other, 0, len(order) - 2)
    return word == "meets" and is_overtaking(order, other)


def are_unlike(order, one, other):
    """Tell whether two values are unlike overtakings of an order."""
    return is_overtaking(order, one) and is_overtaking(order, other) and one != other


def check_facts(order, value):
    """Raise InvalidFacts for any value that is no row facts of an order."""
    if not are_facts(order, value):
        raise InvalidFacts("not row facts of the order")


def rows_told(order, facts):
    """Return the ascending list of all least rows of an order with which all facts go."""
    check_order(order)
    check_facts(order, facts)
    check_most(len(order), MOST_THINGS_TOLD)
    return [row for row, _ in told_with_pairs(order, facts)]


def told_with_pairs(order, facts):
    """Return the ascending list of the least rows with which all facts go, each with its row overtakings."""
    told = [(row, met_in(len(order), row)) for row in rows_in(order)]
    return [(row, pairs) for row, pairs in told if all([goes_with(row, pairs, fact) for fact in facts])]


def goes_with(row, pairs, fact):
    """Tell whether a fact goes with a least row that has these row overtakings."""
    word, one, other, truth = fact
    if word == "does":
        return (row[one] == other) == truth
    if word == "meets":
        return (pairs[one] == other) == truth
    return (pairs.index(one) < pairs.index(other)) == truth


def surely_ahead(order, facts, pair, other):
    """Tell whether the one overtaking is made ahead of the other one in all rows told, in none (False), or in some."""
    check_order(order)
    check_facts(order, facts)
    if not are_unlike(order, pair, other):
        raise InvalidPairs("not two unlike overtakings of the order")
    check_most(len(order), MOST_THINGS_TOLD)
    ahead = [pairs.index(pair) < pairs.index(other) for _, pairs in told_with_pairs(order, facts)]
    if not ahead or any(ahead) != all(ahead):
        return None
    return ahead[0]


def fewest_items(order, row):
    """Return the first one of the fewest indices at which no other least row of an order has the same items."""
    check_order(order)
    if not is_row_of(order, row):
        raise InvalidRow("not a least row of the order")
    check_most(len(order), MOST_THINGS_TOLD)
    # The indices at which another row has another item: one of them has to be told.
    apart = {tuple([at for at in range(len(row)) if row[at] != other[at]]): True for other in rows_in(order)}
    needed = [indices for indices in apart if indices != ()]
    tuples = [()]
    while True:
        for told in tuples:
            if all([any([at in told for at in indices]) for indices in needed]):
                return told
        tuples = [told + (at,) for told in tuples for at in range(told[-1] + 1 if told else 0, len(row))]
