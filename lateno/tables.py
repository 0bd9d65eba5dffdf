"""Tables: the greatest numbers that one thing apart can come to, of what is counted."""

from lateno.desks import need_tool
from lateno.endless import greatest_of, is_at_least, total_of
from lateno.errors import InvalidNumber
from lateno.lines import least_table, line_number
from lateno.pairs import price_table
from lateno.reach import sorts_among, what_comes
from lateno.steps import apart_of, beginnings_with, need_sort, step_played, steps_of_kind
from lateno.checks import is_just, is_number, is_row, is_row_of, rising_until


def base(desk, number, sort):
    """What one thing of a sort counts at the end."""
    number = need_number(desk, number)
    sort = need_sort(desk, what_comes(desk), sort)
    return base_of(price_table(desk), number, sort)


def table(desk, number):
    """(sort, the greatest number that comes of it) for all sorts, ascending; None for endless."""
    number = need_number(desk, number)
    told = numbers_of_sorts(desk, what_comes(desk), number)
    return tuple([(sort, told[sort]) for sort in sorted(told)])


def table_holds(desk, number, value):
    """Whether any value is a table in which each sort has at least its base and each of its lines."""
    number = need_number(desk, number)
    comes = what_comes(desk)
    told = numbers_told(sorts_among(comes), value, 2)
    return told is not None and numbers_hold(desk, comes, number, told)


def worst_of(desk, tool, number):
    """The greatest number over all histories in which one try of the tool is struck."""
    need_tool(desk, tool)
    number = need_number(desk, number)
    comes = what_comes(desk)
    told = numbers_of_sorts(desk, comes, number)
    return greatest_of([total_of([told[pair] for pair in apart_of(pairs)])
                        for _, pairs in beginnings_with(desk, comes, tool)])


def need_number(desk, value):
    """What is counted, in tuples, if the value tells it."""
    if not is_row(value):
        raise InvalidNumber(-1)
    told = tuple(value)
    if told == ("price",):
        return told
    if not is_row_of(told, 2) or told[0] not in ("apart", "touched", "otherwise") or not is_row(told[1]):
        raise InvalidNumber(-1)
    word, lot = told
    at = rising_until(lot, len(desk.tools) if word == "otherwise" else len(desk.kinds))
    if at < len(lot):
        raise InvalidNumber(at)
    return (word, tuple(lot))


def base_of(prices, number, sort):
    """As base, of what is told in tuples and with the least prices of all pairs."""
    if number[0] == "price":
        return prices[sort]
    return 1 if number[0] == "apart" and sort[0] in number[1] else 0


def bases_of(desk, comes, number):
    """For each sort its base."""
    prices = price_table(desk)
    return {sort: base_of(prices, number, sort) for sort in sorts_among(comes)}


def step_line(desk, number, sort, step):
    """(a step of a sort, its gain, the (role, pair) that it gives)."""
    here, there, pairs = step_played(desk, sort, step)
    gives = [(role, pair) for role, pair in enumerate(pairs) if pair[1] != pair[2]]
    return (step, _gain_of(number, step, here != there, gives), tuple(gives))


def all_step_lines(desk, comes, number):
    """For each sort the step lines of all its steps."""
    found = {}
    for sort in sorts_among(comes):
        found[sort] = [step_line(desk, number, sort, step) for step in steps_of_kind(desk, comes, sort[0])]
    return found


def given_of(gives):
    """The sorts among what a step gives."""
    return tuple([pair for _, pair in gives])


def lines_of(told):
    """For each sort the lines of its step lines, each once."""
    lines = {}
    for sort in told:
        found = {}
        for _, gain, gives in told[sort]:
            found[(gain, given_of(gives))] = True
        lines[sort] = sorted(found)
    return lines


def numbers_of_sorts(desk, comes, number):
    """For each sort its number in the least table."""
    return least_table(bases_of(desk, comes, number), lines_of(all_step_lines(desk, comes, number)))


def numbers_told(all_sorts, value, many):
    """For each sort the number that any value's row for it tells behind it, in rows of so many; None if none does."""
    if not isinstance(value, tuple) or len(value) != len(all_sorts):
        return None
    told = {}
    for sort, row in zip(all_sorts, value):
        if not isinstance(row, tuple) or len(row) != many or not is_just(row[0], sort):
            return None
        if row[1] is not None and not is_number(row[1]):
            return None
        told[sort] = row[1]
    return told


def numbers_hold(desk, comes, number, told):
    """Whether each sort's number is at least its base and each of its lines."""
    bases = bases_of(desk, comes, number)
    lines = lines_of(all_step_lines(desk, comes, number))
    return all([is_at_least(told[sort], bases[sort]) and is_at_least(told[sort], line_number(told, lines[sort]))
                for sort in told])


def _gain_of(number, step, is_otherwise, gives):
    """What a step counts by itself, of what it gives and whether it is done in just one of the two."""
    tool, own, _ = step
    if number[0] == "touched":
        return len([role for role, pair in gives if role != own and pair[0] in number[1]])
    if number[0] == "otherwise" and tool in number[1] and is_otherwise:
        return 1
    return 0
