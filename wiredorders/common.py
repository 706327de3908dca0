"""What the modules share: kinds of values, what steps lead to, and how many successions there are."""


def is_integer(value):
    """Tell whether any value is an integer; True and False are none."""
    return isinstance(value, int) and not isinstance(value, bool)


def is_within(value, low, high):
    """Tell whether any value is an integer from low to high."""
    return is_integer(value) and low <= value <= high


def are_within(value, low, high):
    """Tell whether any value is a tuple of integers from low to high."""
    if not isinstance(value, tuple):
        return False
    return all([is_within(item, low, high) for item in value])


def are_ascending(items):
    """Tell whether each item of a list or tuple is less than the next one."""
    return all([items[at] < items[at + 1] for at in range(len(items) - 1)])


def is_group(value, count, high):
    """Tell whether any value is an ascending tuple of so many integers from 0 to high."""
    return are_within(value, 0, high) and len(value) == count and are_ascending(value)


def are_groups(value, count, high):
    """Tell whether any value is a tuple, ascending or not, of such ascending tuples."""
    if not isinstance(value, tuple):
        return False
    return all([is_group(item, count, high) for item in value])


def fewest_steps(start, aim, steps_from):
    """Return the list of the names of as few steps as can be from start to aim.

    steps_from(held) returns a list of pairs: a step's name, and what it leads
    to. Some steps must lead to the aim.
    """
    came = {start: None}
    border = [start]
    while aim not in came:
        further = []
        for held in border:
            for name, reached in steps_from(held):
                if reached not in came:
                    came[reached] = (held, name)
                    further.append(reached)
        border = further
    names = []
    step = came[aim]
    while step is not None:
        names.append(step[1])
        step = came[step[0]]
    return names[::-1]


def all_reached(start, led_from):
    """Return the list of start, and of all to which steps lead from it, each once.

    led_from(held) returns a list of all to which one step leads.
    """
    found = {start: True}
    border = [start]
    while border:
        further = []
        for held in border:
            for reached in led_from(held):
                if reached not in found:
                    found[reached] = True
                    further.append(reached)
        border = further
    return list(found)


def count_successions(needed):
    """Return in how many successions items can come, each behind all that it needs.

    What an item needs is told as bits, one for the index of each other item;
    so is, while counting, which items are there.
    """
    ways = {0: 1}
    for _ in needed:
        longer = {}
        for there in ways:
            for at, bits in enumerate(needed):
                bit = 1 << at
                if there & bit == 0 and there & bits == bits:
                    longer[there | bit] = longer.get(there | bit, 0) + ways[there]
        ways = longer
    return sum(list(ways.values()))
