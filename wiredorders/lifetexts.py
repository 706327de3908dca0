"""Orders, rows, shares and scripts as texts, and back."""

from wiredorders.errors import InvalidText
from wiredorders.lifestates import KINDS, check_script, is_script
from wiredorders.orders import check_many, check_order, check_row, is_order, is_row_in
from wiredorders.spans import are_shares_in, check_shares

DIGITS = "0123456789"
# Python writes and reads no integers of some thousand digits at once, so this is done by so many.
DIGITS_AT_ONCE = 60


def number_text(number):
    """Return an integer from 0 on as its digits."""
    parts = []
    while number >= 10 ** 60:
        number, part = divmod(number, 10 ** 60)
        parts.append(str(part).zfill(DIGITS_AT_ONCE))
    parts.append(str(number))
    return "".join(parts[::-1])


def read_number(text):
    """Return the integer from 0 on that is written so, or None."""
    if text == "" or not all([sign in DIGITS for sign in text]) or (text[0] == "0" and text != "0"):
        return None
    number = 0
    # The first part has what is left of the others.
    first = len(text) % DIGITS_AT_ONCE
    for end in range(first, len(text) + 1, DIGITS_AT_ONCE):
        part = text[max(0, end - DIGITS_AT_ONCE):end]
        number = number * 10 ** 60 + (int(part) if part else 0)
    return number


def share_text(share):
    """Return a share as its top, and, if what is below is not 1, a stroke and this."""
    if share[1] == 1:
        return number_text(share[0])
    return f"{number_text(share[0])}/{number_text(share[1])}"


def read_share(text):
    """Return the pair of integers that is written so; one of them is None if there is none."""
    top, stroke, below = text.partition("/")
    if stroke == "":
        return (read_number(top), 1)
    # With nothing but 1 below there is no stroke.
    return (read_number(top), read_number(below) if below != "1" else None)


def integers_text(integers):
    """Return integers from 0 on with a blank between two."""
    return " ".join([number_text(integer) for integer in integers])


def parts_in(text):
    """Return the list of the parts of a text between its blanks, none of the empty one; or None for any other value."""
    if not isinstance(text, str):
        return None
    return text.split(" ") if text != "" else []


def order_text(order):
    """Return an order as a text."""
    check_order(order)
    return integers_text(order)


def read_order(text):
    """Return the order that is written so."""
    parts = parts_in(text)
    order = None if parts is None else tuple([read_number(part) for part in parts])
    if not is_order(order):
        raise InvalidText("not the text of an order")
    return order


def row_text(many, row):
    """Return a row as a text."""
    check_many(many)
    check_row(many, row)
    return integers_text(row)


def read_row(many, text):
    """Return the row of exchanges of so many things that is written so."""
    check_many(many)
    parts = parts_in(text)
    row = None if parts is None else tuple([read_number(part) for part in parts])
    if not is_row_in(many, row):
        raise InvalidText("not the text of a row of so many things")
    return row


def shares_text(many, row, shares):
    """Return shares of a row as a text."""
    check_shares(many, row, shares)
    return shares_text_in(shares)


def shares_text_in(shares):
    """Return shares as a text."""
    return " ".join([share_text(share) for share in shares])


def read_shares(many, row, text):
    """Return the shares of a row that are written so."""
    check_many(many)
    check_row(many, row)
    parts = parts_in(text)
    shares = None if parts is None else tuple([read_share(part) for part in parts])
    if not are_shares_in(row, shares):
        raise InvalidText("not the text of shares of the row")
    return shares


def script_text(script):
    """Return a script as a text."""
    check_script(script)
    return "\n".join([step_text(step) for step in script])


def step_text(step):
    """Return a step as its word and its items, a blank between two."""
    items = [share_text(item) if isinstance(item, tuple) else number_text(item) for item in step[1:]]
    return " ".join([step[0]] + items)


def read_script(text):
    """Return the script that is written so."""
    if not isinstance(text, str):
        raise InvalidText("not a text")
    lines = text.split("\n") if text != "" else []
    script = tuple([read_step(line) for line in lines])
    if not is_script(script):
        raise InvalidText("not the text of a script")
    return script


def read_step(line):
    """Return the tuple that is written so, a step if its word, and its items, are such."""
    parts = line.split(" ")
    kinds = KINDS.get(parts[0], ())
    if len(parts) != len(kinds) + 1:
        return ()
    items = [read_share(part) if kind is None else read_number(part) for kind, part in zip(kinds, parts[1:])]
    return (parts[0],) + tuple(items)
