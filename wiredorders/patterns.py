"""Patterns: where things of an order stand like those of another one."""


def spots_behind(order, pattern, spot):
    """Return the list of the spots of a pattern's first things, one more than those of a spot, that begin with this.

    Only those come that leave places enough for the pattern's other things.
    """
    many = len(spot)
    lesser = [order[place] for place, thing in zip(spot, pattern) if thing < pattern[many]]
    greater = [order[place] for place, thing in zip(spot, pattern) if thing > pattern[many]]
    low, high = max(lesser, default=-1), min(greater, default=len(order))
    places = range(spot[-1] + 1 if spot else 0, len(order) - len(pattern) + many + 1)
    return [spot + (place,) for place in places if low < order[place] < high]


def has_spot(order, pattern):
    """Tell whether there is a spot of a pattern in an order."""
    left = [()]
    while left:
        spot = left.pop()
        if len(spot) == len(pattern):
            return True
        left.extend(spots_behind(order, pattern, spot))
    return False
