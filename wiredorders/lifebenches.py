"""Benches: states that steps lead on, and back again."""

from wiredorders.common import is_within
from wiredorders.errors import InvalidIndex, NothingToRedo, NothingToUndo
from wiredorders.lifestates import check_script, check_state, check_step, states_by
from wiredorders.orders import check_most, order_in
from wiredorders.rowsteps import met_in
from wiredorders.spans import heights_in, span_in
from wiredorders.tellrows import is_overtaking


class Bench:
    """A state, and all that has been done to it that can be taken back."""

    MOST = 60

    def __init__(self, state):
        check_state(state)
        self._state = state
        # Calls are told by the state ahead and the steps, those taken back by the steps and the state behind.
        self._done = ()
        self._undone = ()

    @property
    def state(self):
        """The state."""
        return self._state

    @property
    def row(self):
        """The row."""
        return self._state[1]

    @property
    def shares(self):
        """The shares of the row."""
        return self._state[2]

    @property
    def spot(self):
        """The spot."""
        return self._state[3]

    @property
    def seat(self):
        """The seat."""
        return self._state[4]

    @property
    def order(self):
        """The order of the state."""
        return order_in(self._state[0], self._state[1])

    @property
    def here(self):
        """The order to which the exchanges ahead of the spot lead."""
        return order_in(self._state[0], self._state[1][:self._state[3]])

    @property
    def wire(self):
        """The places of the seat, ahead of all exchanges and behind each."""
        return heights_in(self._state[1], self._state[4])

    @property
    def table(self):
        """The span."""
        return span_in(self._state[0], self._state[1], self._state[2])

    @property
    def log(self):
        """All steps of the calls that can be taken back, in order."""
        return tuple([step for _, steps in self._done for step in steps])

    def do(self, step):
        """Do a step, and return whether the state is another one then."""
        check_step(step)
        ahead = self._state
        self._call((step,))
        return self._state != ahead

    def __iadd__(self, other):
        """Do all steps of a script, one after another, as one call."""
        check_script(other)
        self._call(other)
        return self

    def _call(self, steps):
        """Do some steps as one call that can be taken back, or raise the first error that applies."""
        state = states_by(self._state, steps)[-1]
        check_most(len(self._done) + 1, self.MOST)
        self._done = self._done + ((self._state, steps),)
        self._undone = ()
        self._state = state

    def undo(self):
        """Take back the last call that can be taken back."""
        if self._done == ():
            raise NothingToUndo("no call can be taken back")
        state, steps = self._done[-1]
        self._done = self._done[:-1]
        self._undone = self._undone + ((steps, self._state),)
        self._state = state

    def redo(self):
        """Do the last call again that was taken back."""
        if self._undone == ():
            raise NothingToRedo("no call can be done again")
        steps, state = self._undone[-1]
        self._undone = self._undone[:-1]
        self._done = self._done + ((self._state, steps),)
        self._state = state

    def attempt(self, action):
        """Call a function with the bench; if it ends with an error, all is as it was before."""
        state, done, undone = self._state, self._done, self._undone
        failed = True
        try:
            told = action(self)
            failed = None
        finally:
            if failed is not None:
                self._state, self._done, self._undone = state, done, undone
        return told

    def __getitem__(self, index):
        """Return the triple of an exchange of the row, its share, and the pair of things that it exchanges."""
        many, row, shares, _, _ = self._state
        if not is_within(index, 0, len(row) - 1):
            raise InvalidIndex("not the index of an exchange")
        return (row[index], shares[index], met_in(many, row)[index])

    def __contains__(self, value):
        """Tell whether any value is an overtaking of the order."""
        return is_overtaking(self.order, value)

    def __iter__(self):
        raise TypeError("a bench is not iterated over")

    def __len__(self):
        """Return the number of calls that can be taken back."""
        return len(self._done)

    def __bool__(self):
        """Tell whether the order is the last one."""
        return bool(self.order == tuple(reversed(range(self._state[0]))))

    def __eq__(self, other):
        """Tell whether another value is a bench with the same state."""
        return isinstance(other, Bench) and self._state == other.state

    def lines(self):
        """Yield a line for each exchange, with the things that change places, and a star if the seat is one of them."""
        many, row, _, _, seat = self._state
        for exchange, pair in zip(row, met_in(many, row)):
            yield f"{exchange}: {pair[0]}-{pair[1]}" + ("*" if seat in pair else "")
