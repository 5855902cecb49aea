"""Plans of merging: how many rows they move, the cheapest ones, and papers that show what neighbours cost."""

from heapq import heapify, heappop, heappush

from runsorts.errors import BadLengths, BadPaper, BadPlan, BadRoom
from runsorts.orders import is_number
from runsorts.stretches import Stretches

MOST_LENGTHS = 40
MOST_LENGTH = 1000000
LEAST_WAYS = 2
MOST_WAYS = 6


def check_lengths(lengths):
    """Refuse what are no lengths of runs."""
    if not isinstance(lengths, list) or not 1 <= len(lengths) <= MOST_LENGTHS:
        raise BadLengths("lengths are a list of one to forty")
    if not all(is_number(length) and 1 <= length <= MOST_LENGTH for length in lengths):
        raise BadLengths("each length is a number from 1 to 10 ** 6")


def check_ways(ways):
    """Refuse to merge too few or too many at a time."""
    if not is_number(ways) or not LEAST_WAYS <= ways <= MOST_WAYS:
        raise BadRoom("two to six are merged at a time")


def check_plan(lengths, ways, plan):
    """Refuse what is no plan that names each run once."""
    # A plan is gone through without a call for each of its parts, as they may lie deep.
    named, left = {}, [plan]
    while left:
        part = left.pop()
        if isinstance(part, tuple):
            if not LEAST_WAYS <= len(part) <= ways:
                raise BadPlan("two to ways plans are merged at a time")
            left.extend(part)
        elif not is_number(part) or not 0 <= part < len(lengths) or part in named:
            raise BadPlan("a plan names each run once, by its number")
        else:
            named[part] = True
    if len(named) < len(lengths):
        raise BadPlan("a plan names all runs")


def check_merging(lengths, ways):
    """Refuse what is wrong of what all plans are made of."""
    check_lengths(lengths)
    check_ways(ways)


def how_many(runs, ways):
    """Tell how many of so many runs a cheapest plan merges now, so that all later merges are of as many as can be."""
    return LEAST_WAYS + (runs - LEAST_WAYS) % (ways - 1)


def cost(lengths, ways, plan):
    """Tell how many rows the merges of a plan move."""
    check_merging(lengths, ways)
    check_plan(lengths, ways, plan)
    moved, left = 0, [(plan, 0)]
    while left:
        part, merges = left.pop()
        if isinstance(part, tuple):
            left.extend([(inner, merges + 1) for inner in part])
        else:
            # Each merge around a run moves its rows once.
            moved += merges * lengths[part]
    return moved


def cheapest(lengths, ways):
    """Tell the fewest rows that any plan moves, and such a plan."""
    check_merging(lengths, ways)
    # The number of an entry goes ahead of its plan, so that plans are never compared.
    queue = [(length, at, at) for at, length in enumerate(lengths)]
    heapify(queue)
    moved, made = 0, len(lengths)
    while len(queue) > 1:
        rows, parts = 0, []
        for _ in range(how_many(len(queue), ways)):
            length, _, part = heappop(queue)
            rows += length
            parts.append(part)
        heappush(queue, (rows, made, tuple(parts)))
        moved += rows
        made += 1
    return moved, queue[0][2]


def neighbours(lengths, ways):
    """Tell the fewest rows that any plan of neighbours moves, and such a plan."""
    check_merging(lengths, ways)
    stretches = cheapest_stretches(lengths, ways)
    return stretches.noted(0, len(lengths)), stretches.plan(0, len(lengths))


def bound(lengths, ways, told):
    """Tell the number of the whole of a good paper: no plan of neighbours moves fewer rows."""
    check_merging(lengths, ways)
    numbers = told_numbers(len(lengths), told)
    stretches = Stretches(lengths, ways)
    for begin, end in stretches.inner_first():
        if numbers[(begin, end)] > stretches.limit(begin, end):
            raise BadPaper("a number is more than a cut of its stretch allows")
        stretches.note(begin, end, numbers[(begin, end)])
    return stretches.noted(0, len(lengths))


def paper(lengths, ways):
    """Tell a good paper, whose numbers are the fewest rows that plans of neighbours move."""
    check_merging(lengths, ways)
    stretches = cheapest_stretches(lengths, ways)
    return [(begin, end, stretches.noted(begin, end)) for begin, end in sorted(stretches.inner_first())]


def cheapest_stretches(lengths, ways):
    """Tell the stretches, the number of each being the most that is good: what a cheapest plan of it moves."""
    stretches = Stretches(lengths, ways)
    for begin, end in stretches.inner_first():
        stretches.note(begin, end, stretches.limit(begin, end))
    return stretches


def told_numbers(many, told):
    """Tell the numbers of a paper by their stretches, or refuse a paper that doesn't tell one for each."""
    if not isinstance(told, list):
        raise BadPaper("a paper is a list")
    numbers = {}
    for entry in told:
        if not isinstance(entry, tuple) or len(entry) != 3 or not all(is_number(part) for part in entry):
            raise BadPaper("a paper tells begins, ends and numbers")
        begin, end, number = entry
        if not 0 <= begin < end - 1 < many or (begin, end) in numbers:
            raise BadPaper("a paper tells of each stretch of two or more runs once")
        numbers[(begin, end)] = number
    if len(numbers) < many * (many - 1) // 2:
        raise BadPaper("a paper tells of all stretches of two or more runs")
    return numbers
