"""Gaps and blocks of an order, orders side by side, and the counts table."""

from wiredorders.orders import MOST_THINGS, check_most, check_order


def gaps(order):
    """Return the ascending list of all gaps."""
    check_order(order)
    return gaps_in(order)


def gaps_in(order):
    """Return the places such that all things ahead are less than all others."""
    return [place for place in range(1, len(order)) if max(order[:place]) == place - 1]


def blocks(order):
    """Return the list of all blocks, in order."""
    check_order(order)
    return blocks_in(order)


def blocks_in(order):
    """Return the list of all blocks, in order."""
    edges = [0] + gaps_in(order) + [len(order)]
    return [block_between(order, edges[at], edges[at + 1]) for at in range(len(edges) - 1)]


def block_between(order, first, end):
    """Return the block at the places from the first one on, ahead of the end."""
    return tuple([thing - first for thing in order[first:end]])


def side_by_side(one, other):
    """Return the order with the things of the one, and behind them the other one's, made greater."""
    check_order(one)
    check_order(other)
    check_most(len(one) + len(other), MOST_THINGS)
    return one + tuple([len(one) + thing for thing in other])


def counts_table(order):
    """Return, for each number of first places and each bound, how many lesser things stand there."""
    check_order(order)
    return counts_in(order)


def counts_in(order):
    """Return the counts table of an order."""
    bounds = range(len(order) + 1)
    counts = [0 for _ in bounds]
    table = [tuple(counts)]
    for thing in order:
        counts = [counts[bound] + 1 if thing < bound else counts[bound] for bound in bounds]
        table.append(tuple(counts))
    return tuple(table)
