"""Merging: runs become one, and it is told how many looks at two rows that took."""

from runsorts.errors import BadRuns
from runsorts.orders import check_kinds, check_order, goes_ahead, is_number, is_row

MOST_RUNS = 40


def is_told(kinds, told):
    """Tell whether something is a (number, row) of a run."""
    if not isinstance(told, tuple) or len(told) != 2:
        return False
    number, row = told
    return is_number(number) and number >= 0 and is_row(kinds, row)


def is_run(kinds, order, run):
    """Tell whether something is a list of (number, row), each ahead of the next."""
    if not isinstance(run, list) or not all(is_told(kinds, told) for told in run):
        return False
    return all(goes_ahead(order, one, other) for one, other in zip(run, run[1:]))


def check_runs(kinds, order, runs):
    """Refuse runs by the number of the first that can't be one, those ahead of it given."""
    seen = {}
    for at, run in enumerate(runs):
        if at >= MOST_RUNS or not is_run(kinds, order, run):
            raise BadRuns(at)
        for number, _ in run:
            if number in seen:
                raise BadRuns(at)
            seen[number] = True


def merged(kinds, order, runs):
    """Tell all rows of the runs in order, and how many looks at two of them that took."""
    check_kinds(kinds)
    check_order(kinds, order)
    check_runs(kinds, order, runs)
    if len(runs) == 0:
        return [], 0
    left, looks = [list(run) for run in runs], 0
    # By pairs, each row is looked at no more than once a round, and a round leaves half of the runs.
    while len(left) > 1:
        pairs = [left[at:at + 2] for at in range(0, len(left), 2)]
        left = []
        for pair in pairs:
            run, more = merged_pair(order, pair)
            left.append(run)
            looks += more
    return left[0], looks


def merged_pair(order, pair):
    """Tell the rows of a list of one or two runs in order, and how many looks that took."""
    if len(pair) == 1:
        return pair[0], 0
    one, other = pair
    told, at, by = [], 0, 0
    while at < len(one) and by < len(other):
        if goes_ahead(order, one[at], other[by]):
            told.append(one[at])
            at += 1
        else:
            told.append(other[by])
            by += 1
    # A look tells one row; those that are left when the other run is over are told without one.
    looks = len(told)
    return told + one[at:] + other[by:], looks
