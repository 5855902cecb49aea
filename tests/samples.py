"""What several tests need: kinds, orders and rows to try, and plain answers to compare with."""

from functools import cmp_to_key

KINDS = ("number", "word")
ORDER = [(0, "up"), (1, "down")]

BAD_KINDS = [
    (), ("number",) * 5, ("text",), ("Number",), ("number", ""), ("word", None), ("number", 3), (True,), ("words",),
]

# For KINDS, of two columns.
BAD_ORDERS = [
    [], [(2, "up")], [(-1, "up")], [(0, "up"), (2, "down")], [(0, "up"), (0, "up")], [(1, "up"), (1, "down")],
    [(0, "up"), (1, "up"), (0, "down")], [(0, "Up")], [(0, "")], [(0, "upwards")], [(0, None)], [(True, "up")],
    [(False, "down")], [(0, "up"), (True, "up")], [("0", "up")], [("up", 0)], [(None, "up")], [(0,)],
    [(0, "up", "down")], [(0, "up"), ()], [(10 ** 19, "up")],
]

# For KINDS.
BAD_ROWS = [
    (), (1,), (1, "a", 2), (1, "a", "b"), (1000, "a"), (-1000, "a"), (10 ** 19, "a"), (True, "a"), (False, ""),
    ("1", "a"), (None, "a"), (1, 2), (1, None), (1, True), (1, "abcdefg"), (1, "A"), (1, "aB"), (1, "a b"),
    (1, "a1"), (1, "a-"), (1, "`"), (1, "{"), (1, "\u00e9"), (1, "a\n"), ("a", 1), [1, "a"],
]

GOOD_ROWS = [(999, ""), (-999, "abcdef"), (0, "zzzzzz"), (998, "a"), (-998, "z"), (5, "nopqrs")]

EVERY_KINDS = [
    ("number",), ("word",), ("word", "number"), ("number", "number", "word"), ("word", "number", "word", "number"),
    ("number", "number", "number", "number"), ("word", "word", "word", "word"),
]

NUMBERS = [-999, -998, -1, 0, 1, 998, 999]
WORDS = ["", "a", "aa", "ab", "b", "ba", "z", "zz", "abcdef", "abcdeg", "zzzzzz"]


def rows_of(kinds, many, seed):
    """Tell so many rows of the kinds, other ones by other seeds; many are alike in some columns or all."""
    rows = []
    for _ in range(many):
        row = []
        for kind in kinds:
            seed = (seed * 1103515245 + 12345) % 2 ** 31
            values = NUMBERS if kind == "number" else WORDS
            row.append(values[(seed >> 16) % len(values)])
        rows.append(tuple(row))
    return rows


def orders_of(kinds):
    """Tell orders of one column and of all, up and down, from the first on and from the last on."""
    last = len(kinds) - 1
    ways = ["up", "down"]
    return [
        [(0, "up")], [(0, "down")], [(last, "up")], [(last, "down")],
        [(column, "up") for column in range(last + 1)],
        [(column, "down") for column in range(last, -1, -1)],
        [(column, ways[column % 2]) for column in range(last, -1, -1)],
        [(column, ways[(column + 1) % 2]) for column in range(last + 1)],
    ]


def is_ahead(order, one, other):
    """Tell whether one (number, row) goes ahead of another one, word by word as the document says it."""
    for column, way in order:
        mine, its = one[1][column], other[1][column]
        if mine != its:
            return mine < its if way == "up" else mine > its
    return one[0] < other[0]


def in_order(order, told):
    """Tell a new list of (number, row) in order."""
    return sorted(told, key=cmp_to_key(lambda one, other: -1 if is_ahead(order, one, other) else 1))


def plainly_exchanged(order, size, rows):
    """Deed by deed as the document says it."""
    coming = list(enumerate(rows))
    room = [coming.pop(0) for _ in range(min(size, len(coming)))]
    runs = []
    while room:
        run = []
        while True:
            may = [told for told in room if not run or not is_ahead(order, told, run[-1])]
            if not may:
                break
            out = in_order(order, may)[0]
            run.append(out)
            room.remove(out)
            if coming:
                room.append(coming.pop(0))
        runs.append(run)
    return runs


def cut(told, many):
    """Tell lists of (number, row), as many of them as are asked for, dealt out in turn."""
    return [told[at::many] for at in range(many)]


def allowed_looks(runs):
    """Tell the most looks that merging the runs may take."""
    rounds = 0
    while 2 ** rounds < len(runs):
        rounds += 1
    return max(len(runs) - 1, 0) + rounds * sum(len(run) for run in runs)


def needed_looks(runs, told):
    """Tell a number of looks that no merging can do without: each at neighbours that come of two runs."""
    home = {number: at for at, run in enumerate(runs) for number, _ in run}
    return sum(home[one[0]] != home[other[0]] for one, other in zip(told, told[1:]))
