"""Near nets, and what makes a net a sorter."""

from wiredorders.common import fewest_steps
from wiredorders.errors import InvalidNet
from wiredorders.nets import check_net, is_net_in, led_by, rows_of_marks
from wiredorders.orders import check_many, check_most, check_row
from wiredorders.overtakings import overtakings_in, some_row
from wiredorders.rowsteps import pushed_in

MOST_ROW = 120
MOST_SOUGHT = 4


def is_near(many, value):
    """Tell whether any value is a near net."""
    check_many(many)
    return is_near_in(many, value)


def is_near_in(many, value):
    """Tell whether any value is a near net, many being right."""
    return is_net_in(many, value) and all([high - low == 1 for low, high in value])


def check_near(many, value):
    """Raise InvalidNet for any value that is no near net."""
    if not is_near_in(many, value):
        raise InvalidNet("not a near net of so many things")


def near_net(many, row):
    """Return the near net of a row of exchanges."""
    check_many(many)
    check_row(many, row)
    check_most(len(row), MOST_ROW)
    return near_net_in(row)


def near_net_in(row):
    """Return the tuple of the comparers at the places of a row's exchanges."""
    return tuple([(exchange, exchange + 1) for exchange in row])


def kept_row(many, row):
    """Return the kept row of a row of exchanges."""
    check_many(many)
    check_row(many, row)
    return pushed_in(tuple(range(many)), row)


def last_led(many, net):
    """Return the order to which a near net leads the last order: it is sorted when all is."""
    return led_by(tuple(reversed(range(many))), net)


def near_more(many, net):
    """Return the least number of further near comparers with which a near net is a sorter."""
    check_many(many)
    check_near(many, net)
    return len(overtakings_in(last_led(many, net)))


def near_rest(many, net):
    """Return any tuple of so many near comparers with which, behind it, a near net is a sorter."""
    check_many(many)
    check_near(many, net)
    return near_net_in(some_row(last_led(many, net))[::-1])


def fewest_more(many, net):
    """Return the least number of further comparers with which a net is a sorter."""
    return len(comparers_more(many, net))


def more_for(many, net):
    """Return any tuple of so few further comparers with which a net is a sorter."""
    return tuple(comparers_more(many, net))


def comparers_more(many, net):
    """Return the list of as few comparers as can be that lead all that comes out of a net to sorted rows of marks."""
    check_many(many)
    check_net(many, net)
    check_most(many, MOST_SOUGHT)
    rows = rows_of_marks(many)
    comparers = [(low, high) for low in range(many) for high in range(low + 1, many)]
    return fewest_steps(
        rows_led(rows, net), tuple([row for row in rows if tuple(sorted(row)) == row]),
        lambda held: [(comparer, rows_led(held, (comparer,))) for comparer in comparers],
    )


def rows_led(rows, net):
    """Return the ascending tuple of all rows of marks to which a net leads some, each once."""
    led = {led_by(row, net): True for row in rows}
    return tuple(sorted(list(led)))
