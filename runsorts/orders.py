"""Kinds, rows and orders: which there are, and which row goes ahead of which."""

from runsorts.errors import BadKinds, BadOrder, BadRows

MOST_COLUMNS = 4
KINDS = ("number", "word")
WAYS = ("up", "down")
MOST_NUMBER = 999
MOST_LETTERS = 6
MOST_ROWS = 120


def is_number(value):
    """Tell whether a value is a whole number: True and False are none."""
    return isinstance(value, int) and not isinstance(value, bool)


def is_word(value):
    """Tell whether a value is a text of few letters a to z."""
    return isinstance(value, str) and len(value) <= MOST_LETTERS and all("a" <= sign <= "z" for sign in value)


def is_value(kind, value):
    """Tell whether a value may stand in a column of the kind."""
    if kind == "word":
        return is_word(value)
    return is_number(value) and -MOST_NUMBER <= value <= MOST_NUMBER


def is_row(kinds, row):
    """Tell whether a row has a value of its kind for each column."""
    if not isinstance(row, tuple) or len(row) != len(kinds):
        return False
    return all(is_value(kind, value) for kind, value in zip(kinds, row))


def is_part(kinds, part):
    """Tell whether a part of an order names a column and a way."""
    if not isinstance(part, tuple) or len(part) != 2:
        return False
    column, way = part
    return is_number(column) and 0 <= column < len(kinds) and way in WAYS


def check_kinds(kinds):
    """Refuse what are no kinds."""
    if not isinstance(kinds, tuple) or not 1 <= len(kinds) <= MOST_COLUMNS:
        raise BadKinds("kinds are a tuple of one to four")
    if not all(kind in KINDS for kind in kinds):
        raise BadKinds("each kind is number or word")


def check_order(kinds, order):
    """Refuse what is no order of columns of the kinds."""
    if not isinstance(order, list) or not order:
        raise BadOrder("an order is a list of one or more columns with their ways")
    columns = []
    for part in order:
        if not is_part(kinds, part) or part[0] in columns:
            raise BadOrder("each part of an order is another column, and its way")
        columns.append(part[0])


def check_rows(kinds, rows, most):
    """Refuse a list of rows by the first place at which none may stand."""
    for place, row in enumerate(rows):
        if place >= most or not is_row(kinds, row):
            raise BadRows(place)


def worths(value):
    """Tell the numbers that a value is compared by, as many for each value of its kind."""
    if isinstance(value, str):
        # Filled up, a word is as long as any other one, so that the way down is nothing but turned signs.
        return [ord(sign) for sign in value.ljust(MOST_LETTERS)]
    return [value]


def rank(order, told):
    """Tell what a (number, row) is compared by: of two, the one of the lesser rank goes ahead."""
    number, row = told
    ranked = []
    for column, way in order:
        if way == "up":
            ranked.extend(worths(row[column]))
        else:
            ranked.extend([-worth for worth in worths(row[column])])
    return tuple(ranked + [number])


def goes_ahead(order, one, other):
    """Tell whether one (number, row) goes ahead of another one."""
    return rank(order, one) < rank(order, other)
