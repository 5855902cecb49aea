"""Runs: rows that are in order, made of all that come through a room of few."""

from runsorts.errors import BadRoom
from runsorts.exchange import Exchange
from runsorts.orders import MOST_ROWS, check_kinds, check_order, check_rows, is_number, rank

MOST_ROOM = 24


def check_size(size):
    """Refuse a room of too few or too many rows."""
    if not is_number(size) or not 1 <= size <= MOST_ROOM:
        raise BadRoom("a room holds 1 to 24 rows")


def numbered(kinds, order, size, rows):
    """Tell rows as (number, row), or refuse what is wrong of all that is handed in."""
    check_kinds(kinds)
    check_order(kinds, order)
    check_size(size)
    check_rows(kinds, rows, MOST_ROWS)
    return list(enumerate(rows))


def filled(kinds, order, size, rows):
    """Tell the runs that come of filling the room and putting what it holds in order."""
    coming = numbered(kinds, order, size, rows)
    parts = [coming[begin:begin + size] for begin in range(0, len(coming), size)]
    return [sorted(part, key=lambda told: rank(order, told)) for part in parts]


def exchanged(kinds, order, size, rows):
    """Tell the runs that come of letting the next row in for each one that goes out."""
    coming = numbered(kinds, order, size, rows)
    room, came = Exchange(order), 0
    while came < len(coming) and came < size:
        room.let_in(coming[came])
        came += 1
    runs = []
    while room.holds() > 0:
        run = []
        while not room.is_over():
            run.append(room.let_out())
            if came < len(coming):
                room.let_in(coming[came])
                came += 1
        runs.append(run)
        room.begin_next()
    return runs
