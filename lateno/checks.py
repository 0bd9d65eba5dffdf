"""What is asked of values that are handed in, and the choices that all modules go through."""


def is_whole(value):
    """Whether a value is an integer; no bool is one."""
    return isinstance(value, int) and not isinstance(value, bool)


def is_number(value):
    """Whether a value is an integer from 0 on."""
    return is_whole(value) and value >= 0


def is_below(value, many):
    """Whether a value is a number below many."""
    return is_whole(value) and 0 <= value < many


def is_row(value):
    """Whether a value is a sequence, that is a list or a tuple."""
    return isinstance(value, (list, tuple))


def is_row_of(value, many):
    """Whether a value is a sequence of so many things."""
    return is_row(value) and len(value) == many


def are_below(value, limits):
    """Whether a value is a sequence of as many numbers, each below the limit in its place."""
    if not is_row_of(value, len(limits)):
        return False
    return all([is_below(one, limit) for one, limit in zip(value, limits)])


def rising_until(row, many):
    """How many of the first things of a sequence are ascending, unlike numbers below many."""
    ahead = -1
    for at, one in enumerate(row):
        if not is_below(one, many) or one <= ahead:
            return at
        ahead = one
    return len(row)


def is_rising(value, many):
    """Whether a value is a sequence of ascending, unlike numbers below many."""
    return is_row(value) and rising_until(value, many) == len(value)


def is_just(value, told):
    """Whether any value is just this one of integers, strings and None, in tuples; no bool is a number."""
    if isinstance(told, tuple):
        if not isinstance(value, tuple) or len(value) != len(told):
            return False
        return all([is_just(one, other) for one, other in zip(value, told)])
    return not isinstance(value, bool) and value == told


def all_lots(row):
    """Each tuple of some things of a row, in the row's order; those within it stand ahead of it."""
    lots = [()]
    for one in row:
        lots = lots + [lot + (one,) for lot in lots]
    return lots


def all_choices(rows):
    """Each tuple that has one thing of each row, ascending if the rows are."""
    found = [()]
    for row in rows:
        found = [told + (one,) for told in found for one in row]
    return found
