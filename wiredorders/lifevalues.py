"""Rows with shares as values."""

from wiredorders.common import is_group, is_integer, is_within
from wiredorders.errors import InvalidIndex, InvalidStep, Unlike
from wiredorders.lifetexts import integers_text, shares_text_in
from wiredorders.orders import MOST_EXCHANGES, check_many, check_most, check_row, order_in
from wiredorders.overtakings import is_least_in
from wiredorders.pipes import check_place
from wiredorders.rowsteps import met_in
from wiredorders.spans import check_shares, item_in, moved_by, span_in


class Spanned:
    """A row with shares, least or not, as a value."""

    def __init__(self, many, row, shares):
        check_shares(many, row, shares)
        self._many = many
        self._row = row
        self._shares = shares

    @classmethod
    def ones(cls, many, row):
        """Return a row with all shares 1."""
        check_many(many)
        check_row(many, row)
        return cls(many, row, tuple([(1, 1) for _ in row]))

    @property
    def many(self):
        """The number of things."""
        return self._many

    @property
    def row(self):
        """The row."""
        return self._row

    @property
    def shares(self):
        """The shares of the row."""
        return self._shares

    @property
    def order(self):
        """The order to which the row leads."""
        return order_in(self._many, self._row)

    def __add__(self, other):
        """Return the row with that of another one behind it."""
        check_alike(self, other)
        check_most(len(self._row) + len(other.row), MOST_EXCHANGES)
        return Spanned(self._many, self._row + other.row, self._shares + other.shares)

    def __iadd__(self, other):
        """Put the row of another one behind this one."""
        check_alike(self, other)
        check_most(len(self._row) + len(other.row), MOST_EXCHANGES)
        self._row, self._shares = self._row + other.row, self._shares + other.shares
        return self

    def __xor__(self, other):
        """Return the row behind a move."""
        if not is_any_move(other):
            raise InvalidStep("not a pair of far or near and of an integer")
        row, shares = moved_by(self._row, self._shares, other[0], other[1])
        return Spanned(self._many, row, shares)

    def __invert__(self):
        """Return the row turned about."""
        return Spanned(self._many, self._row[::-1], self._shares[::-1])

    def __call__(self, first, last):
        """Return the item of the span in a row and a column."""
        check_place(self._many, first)
        check_place(self._many, last)
        return item_in(self._many, self._row, self._shares, first, last)

    def __getitem__(self, index):
        """Return the pair of an exchange and its share."""
        if not is_within(index, 0, len(self._row) - 1):
            raise InvalidIndex("not the index of an exchange")
        return (self._row[index], self._shares[index])

    def __contains__(self, value):
        """Tell whether any value is an ascending pair of things that change places in the row."""
        return is_group(value, 2, self._many - 1) and value in met_in(self._many, self._row)

    def __iter__(self):
        raise TypeError("a Spanned is not iterated over")

    def __len__(self):
        """Return the number of exchanges."""
        return len(self._row)

    def __bool__(self):
        """Tell whether the row is least."""
        return bool(is_least_in(self._many, self._row))

    def __eq__(self, other):
        """Tell whether another value is a Spanned that has all the same."""
        if not isinstance(other, Spanned):
            return False
        return (self._many, self._row, self._shares) == (other.many, other.row, other.shares)

    def __str__(self):
        """Return the number of things, the text of the row, and that of the shares."""
        return f"{self._many}; {integers_text(self._row)}; {shares_text_in(self._shares)}"

    def same(self, other):
        """Tell whether this and another one have the same span."""
        check_alike(self, other)
        return span_in(self._many, self._row, self._shares) == span_in(self._many, other.row, other.shares)


def check_alike(one, other):
    """Raise Unlike for any value that is no Spanned of as many things as the one."""
    if not isinstance(other, Spanned) or one.many != other.many:
        raise Unlike("not a Spanned of as many things")


def is_any_move(value):
    """Tell whether any value is a pair of far or near and of an integer."""
    if not isinstance(value, tuple) or len(value) != 2:
        return False
    word, index = value
    return isinstance(word, str) and word in ("far", "near") and is_integer(index)
