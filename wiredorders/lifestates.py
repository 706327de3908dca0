"""States, the steps that lead from one to another, and scripts of steps."""

from wiredorders.common import are_within, is_within
from wiredorders.errors import (
    Held, InvalidPlace, InvalidScript, InvalidSpot, InvalidState, InvalidStep, InvalidThing, NoRise,
)
from wiredorders.orders import MOST_THINGS, check_exchange, is_row_in, order_in
from wiredorders.overtakings import is_least_in
from wiredorders.spans import are_shares_in, is_share, moved_by, over, times

MOST_STEPS = 12
MOST_SHARE = 1000
# What stands behind a step's word: the greatest integer possible, or None for a share.
KINDS = {
    "far": (449,), "near": (449,), "add": (29, None), "drop": (), "about": (), "over": (), "scale": (29, None),
    "put": (449,), "watch": (29,),
}


def is_state(value):
    """Tell whether any value is a state."""
    if not isinstance(value, tuple) or len(value) != 5 or not is_within(value[0], 1, MOST_THINGS):
        return False
    many, row, shares, spot, seat = value
    if not is_row_in(many, row) or not is_least_in(many, row) or not are_shares_in(row, shares):
        return False
    return is_within(spot, 0, len(row)) and is_within(seat, 0, many - 1)


def check_state(value):
    """Raise InvalidState for any value that is no state."""
    if not is_state(value):
        raise InvalidState("not a state")


def is_step(value):
    """Tell whether any value is a step."""
    if not isinstance(value, tuple) or value == () or not isinstance(value[0], str):
        return False
    kinds = KINDS.get(value[0])
    if kinds is None or len(value) != len(kinds) + 1:
        return False
    return all([is_step_item(kind, item) for kind, item in zip(kinds, value[1:])])


def is_step_item(kind, value):
    """Tell whether any value is an integer up to the kind, or a share of small integers if this is None."""
    if kind is None:
        return are_within(value, 1, MOST_SHARE) and is_share(value)
    return is_within(value, 0, kind)


def check_step(value):
    """Raise InvalidStep for any value that is no step."""
    if not is_step(value):
        raise InvalidStep("not a step")


def is_script(value):
    """Tell whether any value is a script."""
    return isinstance(value, tuple) and len(value) <= MOST_STEPS and all([is_step(step) for step in value])


def check_script(value):
    """Raise InvalidScript for any value that is no script."""
    if not is_script(value):
        raise InvalidScript("not a script")


def moved(state, step):
    """Return the state behind a far or a near move."""
    many, row, shares, spot, seat = state
    word, index = step
    behind, carried = moved_by(row, shares, word, index)
    return (many, behind, carried, spot, seat)


def added(state, step):
    """Return the state with an exchange at the row's end."""
    many, row, shares, spot, seat = state
    _, exchange, share = step
    check_exchange(many, exchange)
    order = order_in(many, row)
    if order[exchange] > order[exchange + 1]:
        raise NoRise("the exchange would make one overtaking less")
    return (many, row + (exchange,), shares + (share,), spot, seat)


def dropped(state, _step):
    """Return the state without the row's last exchange."""
    many, row, shares, spot, seat = state
    if spot == len(row):
        raise Held("there is no exchange, or the spot is behind the last one")
    return (many, row[:-1], shares[:-1], spot, seat)


def about(state, _step):
    """Return the state with the row and the shares told the other way round."""
    many, row, shares, spot, seat = state
    return (many, row[::-1], shares[::-1], len(row) - spot, order_in(many, row).index(seat))


def mirrored(state, _step):
    """Return the state with each exchange, and the seat, as far from the greatest one as it was from 0."""
    many, row, shares, spot, seat = state
    return (many, tuple([many - 2 - exchange for exchange in row]), shares, spot, many - 1 - seat)


def scaled(state, step):
    """Return the state with the shares of a height taken times a share, those one less divided by it."""
    many, row, shares, spot, seat = state
    _, height, share = step
    if height >= many:
        raise InvalidPlace("not an integer below the number of things")
    by = {height: share, height - 1: over(share)}
    carried = [times(own, by.get(exchange, (1, 1))) for exchange, own in zip(row, shares)]
    return (many, row, tuple(carried), spot, seat)


def put(state, step):
    """Return the state with another spot."""
    many, row, shares, _, seat = state
    if step[1] > len(row):
        raise InvalidSpot("above the number of exchanges")
    return (many, row, shares, step[1], seat)


def watched(state, step):
    """Return the state with another seat."""
    many, row, shares, spot, _ = state
    if step[1] >= many:
        raise InvalidThing("not one of so many things")
    return (many, row, shares, spot, step[1])


ACTIONS = {
    "far": moved, "near": moved, "add": added, "drop": dropped, "about": about, "over": mirrored, "scale": scaled,
    "put": put, "watch": watched,
}


def stepped(state, step):
    """Return the state behind a step."""
    check_state(state)
    check_step(step)
    return step_done(state, step)


def step_done(state, step):
    """Return the state behind a step, or raise the first error that applies by the step's word."""
    action = ACTIONS[step[0]]
    return action(state, step)


def all_stepped(state, script):
    """Return the list of a state, and of the states behind each step of a script, one after another."""
    check_state(state)
    check_script(script)
    return states_by(state, script)


def states_by(state, steps):
    """Return the list of a state, and of the states behind each of some steps, one after another."""
    states = [state]
    for step in steps:
        states.append(step_done(states[-1], step))
    return states


def step_back(state, step):
    """Return the step that leads back from behind a step, or None."""
    stepped(state, step)
    word = step[0]
    if word == "add":
        return ("drop",)
    if word == "drop":
        return None
    if word == "scale":
        return (word, step[1], over(step[2]))
    if word == "put":
        return (word, state[3])
    if word == "watch":
        return (word, state[4])
    return step
