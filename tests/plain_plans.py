"""Plans as the document tells of them, word by word: what the tests of plans and of texts compare with."""

from functools import lru_cache
from itertools import combinations

LENGTHS = [
    [1], [1, 1], [9, 1], [1, 9, 1], [1, 2, 3], [3, 3, 3, 3], [8, 1, 4, 2], [1, 1, 1, 1, 1], [9, 2, 7, 2, 4],
    [1, 2, 4, 8, 16, 32], [32, 16, 8, 4, 2, 1], [5, 5, 5, 5, 5, 1], [1, 100, 1, 100, 1, 100], [6, 1, 3, 3, 1, 6, 2],
    [1, 1, 1, 1, 1, 1, 1, 1], [10 ** 6, 1, 10 ** 6, 1, 1, 10 ** 6, 7, 9],
]

BAD_LENGTHS = [
    [], [1] * 41, [0], [1, 0, 1], [-1], [10 ** 6 + 1], [1, 10 ** 19], [True], [1, True], [False, 1], ["1"], [None],
    [1, [1]], [(1,)],
]

BAD_WAYS = [1, 0, -2, 7, 8, 10 ** 19, True, False]


def chain(many):
    """Tell the deepest plan: each run is merged with all ahead of it."""
    plan = 0
    for at in range(1, many):
        plan = (plan, at)
    return plan


def bad_plans():
    """Tell lengths, ways, and what is no plan of them."""
    two, three, five = [1, 2], [1, 2, 3], [1] * 5
    deep, wide = 0, ()
    for _ in range(5000):
        deep, wide = (deep,), (wide, wide)
    return [(two, 2, plan) for plan in (
        0, 1, 2, -1, (), (0,), (1,), (0, 0), (1, 1), (0, 2), (0, -1), (-2, 1), (0, 1, 1), (0, 1, 2), (0, (1,)),
        ((0, 1),), ((0,), (1,)), ((), (0, 1)), (0, ()), True, False, (True, 0), (0, True), (False, 1),
        (0, 10 ** 19), deep, (deep, 1), wide,
    )] + [(three, 2, plan) for plan in (
        (0, 1), ((0, 1), 1), ((0, 1), (0, 2)), (0, 1, 2), ((0, 1), 3), (((0, 1), 2), 0), ((0, 1), (2,)), (0, (1, 0)),
    )] + [(five, 4, plan) for plan in (
        (0, 1, 2, 3, 4), (0, 1, 2, 3), ((0, 1, 2, 3, 4), 0), ((0, 1), (2, 3)), ((0, 1), (2, 3), (4,)),
    )] + [([7], 2, plan) for plan in (1, -1, (), (0,), (0, 0), True, False)] + [([1] * 40, 2, chain(41))] + [
        ([1] * 40, 2, chain(39)),
    ]


def moved_by(lengths, plan):
    """Tell how many rows the merges of a plan move, merge by merge."""
    if not isinstance(plan, tuple):
        return 0
    return sum(lengths[leaf] for leaf in leaves(plan)) + sum(moved_by(lengths, part) for part in plan)


def leaves(plan):
    """Tell the runs that a plan names, in turn."""
    if not isinstance(plan, tuple):
        return [plan]
    return [leaf for part in plan for leaf in leaves(part)]


def some_plans(many, ways):
    """Tell some plans of so many runs: flat ones, deep ones, those in turn and turned about."""
    told = [chain(many), grouped(list(range(many)), ways), grouped(list(range(many))[::-1], ways),
            grouped(list(range(many)), 2)]
    return told


def grouped(parts, ways):
    """Tell a plan of parts that are put together, so many at a time, until there is one."""
    while len(parts) > 1:
        cut = [parts[at:at + ways] for at in range(0, len(parts), ways)]
        parts = [tuple(group) if len(group) > 1 else group[0] for group in cut]
    return parts[0]


def parted(runs, most):
    """Tell all ways to part a tuple of runs in so many parts or fewer, in whatever turn."""
    if not runs:
        yield []
    elif most > 0:
        first, rest = runs[0], runs[1:]
        for many in range(len(rest) + 1):
            for others in combinations(rest, many):
                left = tuple(run for run in rest if run not in others)
                for parts in parted(left, most - 1):
                    yield [(first,) + others] + parts


def fewest(lengths, ways):
    """Tell the fewest rows that any plan moves, of all there are."""
    @lru_cache(maxsize=None)
    def of(runs):
        if len(runs) == 1:
            return 0
        rows = sum(lengths[run] for run in runs)
        return rows + min(sum(of(part) for part in parts) for parts in parted(runs, ways) if len(parts) > 1)
    return of(tuple(range(len(lengths))))


def cuts(begin, end, most):
    """Tell all ways to cut a stretch in so many parts or fewer, each part a stretch."""
    if begin == end:
        yield []
    elif most > 0:
        for cut in range(begin + 1, end + 1):
            for parts in cuts(cut, end, most - 1):
                yield [(begin, cut)] + parts


def fewest_of_neighbours(lengths, ways):
    """Tell the fewest rows that any plan of neighbours moves."""
    @lru_cache(maxsize=None)
    def of(begin, end):
        if end - begin == 1:
            return 0
        return sum(lengths[begin:end]) + split(begin, end, ways, True)

    @lru_cache(maxsize=None)
    def split(begin, end, most, is_whole):
        """Tell the fewest for a stretch in so many parts or fewer, and more than one if it is the whole."""
        least = [] if is_whole else [of(begin, end)]
        if most > 1:
            least += [of(begin, cut) + split(cut, end, most - 1, False) for cut in range(begin + 1, end)]
        return min(least)
    return of(0, len(lengths))


def is_good(lengths, ways, numbers):
    """Tell whether numbers by (begin, end) are no more than any cut of their stretch allows."""
    of = {(at, at + 1): 0 for at in range(len(lengths))}
    of.update(numbers)
    for (begin, end), number in numbers.items():
        for parts in cuts(begin, end, ways):
            if len(parts) > 1 and number > sum(lengths[begin:end]) + sum(of[part] for part in parts):
                return False
    return True
