"""Runs: rows that are in order, made of all that come through a room of few."""

from heapq import heapify, heappop, heappush

from runsorts.errors import BadRoom
from runsorts.orders import MOST_ROWS, check_kinds, check_order, check_rows, is_number, rank

MOST_ROOM = 24


def check_size(size):
    """Refuse a room of too few or too many rows."""
    if not is_number(size) or not 1 <= size <= MOST_ROOM:
        raise BadRoom("a room holds 1 to 24 rows")


def numbered(kinds, order, size, rows):
    """Tell rows as (number, row), or refuse what is wrong of all that is handed in."""
    check_kinds(kinds)
    check_order(kinds, order)
    check_size(size)
    check_rows(kinds, rows, MOST_ROWS)
    return list(enumerate(rows))


def filled(kinds, order, size, rows):
    """Tell the runs that come of filling the room and putting what it holds in order."""
    coming = numbered(kinds, order, size, rows)
    parts = [coming[begin:begin + size] for begin in range(0, len(coming), size)]
    return [sorted(part, key=lambda told: rank(order, told)) for part in parts]


def exchanged(kinds, order, size, rows):
    """Tell the runs that come of letting the next row in for each one that goes out."""
    coming = numbered(kinds, order, size, rows)
    room, coming = coming[:size], coming[size:]
    runs = []
    while room:
        run, room, coming = one_run(order, room, coming)
        runs.append(run)
    return runs


def one_run(order, room, coming):
    """Tell one run, the rows that are in the room behind it, and those that are still to come."""
    going = [(rank(order, told), told) for told in room]
    heapify(going)
    run, waiting, came = [], [], 0
    while going:
        last, told = heappop(going)
        run.append(told)
        if came < len(coming):
            entry = coming[came]
            came += 1
            if rank(order, entry) < last:
                waiting.append(entry)
            else:
                heappush(going, (rank(order, entry), entry))
    return run, waiting, coming[came:]
