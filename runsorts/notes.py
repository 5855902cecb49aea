"""Orders and plans as texts, written and read."""

from runsorts.errors import BadText
from runsorts.orders import WAYS, check_kinds, check_order
from runsorts.plans import check_merging, check_plan


def written_order(kinds, order):
    """Tell the text of an order."""
    check_kinds(kinds)
    check_order(kinds, order)
    return ", ".join([f"{column} {way}" for column, way in order])


def read_order(kinds, text):
    """Tell the order that a text is of."""
    check_kinds(kinds)
    order = []
    for place, part in enumerate(text.split(", ")):
        words = part.split(" ")
        if len(words) != 2 or not is_figures(words[0]) or words[1] not in WAYS:
            raise BadText(place)
        order.append((int(words[0]), words[1]))
    check_order(kinds, order)
    return order


def written_plan(lengths, ways, plan):
    """Tell the text of a plan."""
    check_merging(lengths, ways)
    check_plan(lengths, ways, plan)
    return plan_text(plan)


def plan_text(plan):
    """Tell the text of a plan that is one."""
    if isinstance(plan, tuple):
        parts = " ".join([plan_text(part) for part in plan])
        return f"( {parts} )"
    return str(plan)


def read_plan(lengths, ways, text):
    """Tell the plan that a text is of."""
    check_merging(lengths, ways)
    plan = put_together(text.split(" "))
    check_plan(lengths, ways, plan)
    return plan


def put_together(words):
    """Tell numbers and tuples as words tell them, or refuse the first word that can't stand at its place."""
    # The parts that are read so far: first of the whole, which has one, then of each tuple that is still open.
    levels = [[]]
    for place, word in enumerate(words):
        if not may_stand(levels, word):
            raise BadText(place)
        if word == "(":
            levels.append([])
        elif word == ")":
            parts = levels.pop()
            levels[-1].append(tuple(parts))
        else:
            levels[-1].append(int(word))
    if len(levels) > 1:
        raise BadText(len(words))
    return levels[0][0]


def may_stand(levels, word):
    """Tell whether a word may stand behind those that made these levels."""
    is_open = len(levels) > 1
    if levels[-1] and not is_open:
        # The whole is read, and nothing may stand behind it.
        return False
    if word == ")":
        return is_open and len(levels[-1]) > 0
    return word == "(" or is_figures(word)


def is_figures(word):
    """Tell whether a word is a number of one or two figures, none of them needless."""
    if not 1 <= len(word) <= 2 or not all("0" <= sign <= "9" for sign in word):
        return False
    return len(word) == 1 or word[0] != "0"
