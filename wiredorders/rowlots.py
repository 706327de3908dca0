"""Lots of rows: all that far moves lead to, and what tells lots from one another."""

from wiredorders.common import count_successions
from wiredorders.leastrows import rows_in
from wiredorders.orders import check_many, check_most, check_order, check_row

MOST_SIZED = 16
MOST_LISTED = 5


def lot_form(many, row):
    """Return the first row, in ascending order, of a row's lot."""
    check_many(many)
    check_row(many, row)
    return form_in(row)


def form_in(row):
    """Return the lot form: the least exchange that can come next does so, ever again."""
    rest = list(row)
    form = []
    while rest:
        exchange, at = min([(rest[free], free) for free in free_in(rest)])
        form.append(exchange)
        del rest[at]
    return tuple(form)


def free_in(row):
    """Return the indices of the items that far moves can bring to a row's beginning."""
    held = {}
    free = []
    for at, exchange in enumerate(row):
        if exchange not in held:
            free.append(at)
        for near in (exchange - 1, exchange, exchange + 1):
            held[near] = True
    return free


def same_lot(many, row, other_row):
    """Tell whether two rows are of one lot."""
    check_many(many)
    check_row(many, row)
    check_row(many, other_row)
    return rounds_in(row) == rounds_in(other_row)


def lot_size(many, row):
    """Return how many rows the lot of a row has."""
    check_many(many)
    check_row(many, row)
    check_most(len(row), MOST_SIZED)
    return size_in(row)


def size_in(row):
    """Return how many rows the lot of a row has."""
    return count_successions(items_ahead(row))


def items_ahead(row):
    """Return, for each item, as bits, the items ahead of it that no far move brings behind it."""
    ahead = []
    for at, exchange in enumerate(row):
        bits = 0
        for early in range(at):
            if abs(row[early] - exchange) <= 1:
                bits = bits | (1 << early)
        ahead.append(bits)
    return ahead


def rounds_of(many, row):
    """Return the rounds of a row."""
    check_many(many)
    check_row(many, row)
    return rounds_in(row)


def rounds_in(row):
    """Return the rounds of a row of any length."""
    latest = {}
    rounds = []
    for exchange in row:
        at = 1 + max([latest.get(near, -1) for near in (exchange - 1, exchange, exchange + 1)])
        if at == len(rounds):
            rounds.append([])
        rounds[at].append(exchange)
        latest[exchange] = at
    return tuple([tuple(sorted(each)) for each in rounds])


def lot_forms(order):
    """Return the ascending list of the lot forms of all least rows of an order."""
    check_order(order)
    check_most(len(order), MOST_LISTED)
    return forms_in(order)


def forms_in(order):
    """Return the ascending list of the lot forms of all least rows of an order."""
    forms = {form_in(row): True for row in rows_in(order)}
    return sorted(list(forms))


def count_lots(order):
    """Return how many lots the least rows of an order are of."""
    check_order(order)
    check_most(len(order), MOST_LISTED)
    return len(forms_in(order))
