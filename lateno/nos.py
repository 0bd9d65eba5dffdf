"""Nos: what groups of them cost, rows of them in any order, and what a history may still come to."""

from lateno.counts import counted
from lateno.endless import endless_last, greatest_of, total_of
from lateno.errors import InvalidLot, InvalidSize, InvalidStruck
from lateno.pairs import price_table, world_price
from lateno.reach import is_possible, what_comes
from lateno.reaching import need_least, reached
from lateno.tables import need_number, numbers_of_sorts, worst_of
from lateno.twins import apart, need_struck, twin_behind
from lateno.worlds import need_history
from lateno.checks import is_below, is_row, rising_until

MOST_MANY = 40
NO_HISTORY = ((), ())


def group_worst(desk, tools, many, number):
    """The greatest number over all histories in which so many tries of these tools are struck."""
    tools = _need_tools(desk, tools)
    _need_many(many)
    number = need_number(desk, number)
    if many == 0:
        return 0
    return _times(many, greatest_of([worst_of(desk, tool, number) for tool in tools]))


def group_reached(desk, tools, many, number, least):
    """Some (history, struck): so many struck tries of these tools that count at least so much; else None."""
    tools = _need_tools(desk, tools)
    _need_many(many)
    number = need_number(desk, number)
    need_least(least)
    if many == 0:
        return (NO_HISTORY, ()) if least == 0 else None
    comes = what_comes(desk)
    ranked = sorted([(endless_last(worst_of(desk, tool, number)), tool)
                     for tool in tools if is_possible(desk, comes, tool)])
    if not ranked:
        return None
    tool = ranked[-1][1]
    worst = worst_of(desk, tool, number)
    if worst is not None and many * worst < least:
        return None
    parts = []
    for _ in range(many):
        part = least if worst is None else min(worst, least)
        parts.append(reached(desk, tool, number, part))
        least -= part
    return _side_by_side(parts)


def paid(desk, history, order):
    """For each try of a row what a No to it costs behind Nos to those ahead, None if it can't be put right."""
    history = need_history(desk, history)
    order = _need_order(history, order)
    worlds = [twin_behind(desk, history, sorted(order[:many])) for many in range(len(order) + 1)]
    prices = price_table(desk)
    return tuple([world_price(prices, history[0], here, there) for here, there in zip(worlds, worlds[1:])])


def still(desk, history, struck, number):
    """The greatest number that a history with struck tries can come to by further things and tries."""
    history = need_history(desk, history)
    struck = need_struck(history, struck)
    number = need_number(desk, number)
    told = numbers_of_sorts(desk, what_comes(desk), number)
    ahead = [told[(history[0][thing], x, y)] for thing, x, y in apart(desk, history, struck)]
    if number[0] in ("touched", "otherwise"):
        ahead.append(counted(desk, history, struck, number))
    return total_of(ahead)


def _need_tools(desk, value):
    """The lot of tools in a tuple, if the value is one and not empty."""
    if not is_row(value) or not value:
        raise InvalidLot(-1)
    at = rising_until(value, len(desk.tools))
    if at < len(value):
        raise InvalidLot(at)
    return tuple(value)


def _need_many(value):
    if not is_below(value, MOST_MANY + 1):
        raise InvalidSize("many")


def _need_order(history, value):
    """The row of unlike tries in a tuple, if the value is one."""
    if not is_row(value):
        raise InvalidStruck(-1)
    told = []
    for at, number in enumerate(value):
        if not is_below(number, len(history[1])) or number in told:
            raise InvalidStruck(at)
        told.append(number)
    return tuple(told)


def _times(many, number):
    return None if number is None else many * number


def _side_by_side(parts):
    """(history, struck) of (history, struck try) told one behind another, each on things of its own."""
    things = []
    tries = []
    struck = []
    for (kinds, rest), at in parts:
        ahead = len(things)
        struck.append(len(tries) + at)
        things.extend(kinds)
        tries.extend([(tool, tuple([member + ahead for member in members])) for tool, members in rest])
    return ((tuple(things), tuple(tries)), tuple(struck))
