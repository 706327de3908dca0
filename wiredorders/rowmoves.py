"""Moves of rows, and ways of moves from row to row."""

from wiredorders.common import fewest_steps, is_integer
from wiredorders.errors import InvalidMove, InvalidRow, Unlike
from wiredorders.orders import check_many, check_most, check_row, order_in
from wiredorders.overtakings import is_least_in
from wiredorders.rowlots import form_in

MOST_EXCHANGES_LED = 10
MOST_THINGS_LED = 5


def row_moves(many, row):
    """Return the ascending list of all moves that can be done on a row."""
    check_many(many)
    check_row(many, row)
    return moves_in(row)


def moves_in(row):
    """Return the ascending list of all moves that can be done on a row."""
    far = [("far", at) for at in range(len(row) - 1) if abs(row[at] - row[at + 1]) >= 2]
    near = [("near", at) for at in range(len(row) - 2) if is_near_at(row, at)]
    return far + near


def is_near_at(row, at):
    """Tell whether the items from an index on are i, j, i, with i and j differing by 1."""
    return row[at] == row[at + 2] and abs(row[at] - row[at + 1]) == 1


def row_moved(many, row, move):
    """Return the row behind a move."""
    check_many(many)
    check_row(many, row)
    if not is_move_on(row, move):
        raise InvalidMove("not a move that can be done on the row")
    return moved_in(row, move)


def is_move_on(row, value):
    """Tell whether any value is a move that can be done on a row."""
    if not isinstance(value, tuple) or len(value) != 2:
        return False
    word, index = value
    return isinstance(word, str) and is_integer(index) and value in moves_in(row)


def moved_in(row, move):
    """Return the row behind a move that can be done on it."""
    word, at = move
    if word == "far":
        return row[:at] + (row[at + 1], row[at]) + row[at + 2:]
    return row[:at] + (row[at + 1], row[at], row[at + 1]) + row[at + 3:]


def is_move_way(many, row, other_row, value):
    """Tell whether any value is a tuple of moves that lead from the one row to the other one."""
    check_many(many)
    check_row(many, row)
    check_row(many, other_row)
    if not isinstance(value, tuple):
        return False
    for move in value:
        if not is_move_on(row, move):
            return False
        row = moved_in(row, move)
    return row == other_row


def check_least_row(many, row):
    """Raise InvalidRow for any value that is no least row of so many things."""
    check_row(many, row)
    if not is_least_in(many, row):
        raise InvalidRow("not a least row")


def check_least_rows(many, row, other_row):
    """Raise the first error that applies, if two values are no least rows of one order."""
    check_many(many)
    check_least_row(many, row)
    check_least_row(many, other_row)
    if order_in(many, row) != order_in(many, other_row):
        raise Unlike("the rows lead to unlike orders")


def fewest_moves(many, row, other_row):
    """Return the least number of moves that lead from the one least row to the other one."""
    check_least_rows(many, row, other_row)
    check_most(many, MOST_THINGS_LED)
    return len(fewest_steps(row, other_row, moves_from))


def moves_from(row):
    """Return the list of all moves of a row, each with the row behind it."""
    return [(move, moved_in(row, move)) for move in moves_in(row)]


def fewest_near(many, row, other_row):
    """Return the least number of near moves among moves that lead from the one to the other one."""
    check_least_rows(many, row, other_row)
    check_most(many, MOST_THINGS_LED)
    return len(fewest_steps(form_in(row), form_in(other_row), forms_beside))


def forms_beside(form):
    """Return the list of the lot forms one near move off, each also as the step's name."""
    return [(reached, reached) for reached in near_forms(form)]


def near_forms(form):
    """Return the list of the lot forms to which a near move, among far ones, leads from a lot form."""
    return [form_in(near_made(form, corners)) for corners in corners_in(form)]


def corners_in(row):
    """Return the ascending list of the indices of each i, j, i that far moves can bring together.

    Behind an item i the next two that far moves cannot bring ahead of it have
    to be j, that differs by 1, and i.
    """
    found = []
    for at, exchange in enumerate(row):
        beside = [later for later in range(at + 1, len(row)) if abs(row[later] - exchange) <= 1][:2]
        if len(beside) == 2 and row[beside[0]] != exchange and row[beside[1]] == exchange:
            found.append((at, beside[0], beside[1]))
    return found


def gathered(row, corners):
    """Return the pair of a row of the same lot with three corners together, and of their index."""
    first, middle, last = corners
    early = []
    late = []
    # What has to stay behind the first corner can go behind the last one.
    behind = [row[first]]
    for at in range(first + 1, last):
        if min([abs(row[at] - exchange) for exchange in behind]) >= 2:
            early.append(row[at])
        else:
            behind.append(row[at])
            if at != middle:
                late.append(row[at])
    three = (row[first], row[middle], row[last])
    return row[:first] + tuple(early) + three + tuple(late) + row[last + 1:], first + len(early)


def near_made(row, corners):
    """Return a row in which three corners have been brought together, and made a near move."""
    together, at = gathered(row, corners)
    return moved_in(together, ("near", at))


def move_way(many, row, other_row):
    """Return any tuple of at most 500 moves that lead from the one least row to the other one."""
    check_least_rows(many, row, other_row)
    check_most(len(row), MOST_EXCHANGES_LED)
    moves = []
    for form in fewest_steps(form_in(row), form_in(other_row), forms_beside):
        together, at = gathered(row, corners_to(row, form))
        moves = moves + far_way(row, together) + [("near", at)]
        row = moved_in(together, ("near", at))
    return tuple(moves + far_way(row, other_row))


def corners_to(row, form):
    """Return the corners in a row whose near move leads to the lot with a form."""
    return [corners for corners in corners_in(row) if form_in(near_made(row, corners)) == form][0]


def far_way(row, aim):
    """Return the list of far moves that lead from a row to another one of its lot."""
    items = list(row)
    moves = []
    for at in range(len(aim)):
        for back in reversed(range(at, items.index(aim[at], at))):
            items[back], items[back + 1] = items[back + 1], items[back]
            moves.append(("far", back))
    return moves
