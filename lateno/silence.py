"""Silence: rules under which a desk that watches never holds a try."""

from lateno.errors import InvalidHistory, InvalidRules
from lateno.guards import RIGHT, serves
from lateno.pairs import price_table, world_price
from lateno.reach import what_comes
from lateno.twins import twin_behind
from lateno.ways import all_hops, way_history, way_to
from lateno.worlds import need_history, world_behind
from lateno.checks import is_below, is_just, is_rising, is_row, is_row_of


def need_rules(desk, value):
    """The rules in tuples, if the value is such."""
    if not is_row(value):
        raise InvalidRules(-1)
    many = len(desk.tools)
    told = []
    for at, rule in enumerate(value):
        if not is_row_of(rule, 2) or not is_below(rule[0], many) or not is_rising(rule[1], many):
            raise InvalidRules(at)
        if told and rule[0] <= told[-1][0]:
            raise InvalidRules(at)
        told.append((rule[0], tuple(rule[1])))
    return tuple(told)


def rule_serves(desk, tool, waits):
    """Whether the No to a try of the tool can be put right whatever tools that don't wait do behind it."""
    tool, waits = need_rules(desk, [(tool, waits)])[0]
    return serves(desk, (), tool, [("wait", other) for other in waits], RIGHT)


def is_silent(desk, rules):
    """Whether a desk that watches without a bound never holds a try in any run that keeps the rules."""
    return all([rule_serves(desk, tool, waits) for tool, waits in need_rules(desk, rules)])


def loud_run(desk, rules):
    """Some (things, tries, number): the No to this try can't be put right, though its rule is kept; else None."""
    rules = need_rules(desk, rules)
    comes = what_comes(desk)
    prices = price_table(desk)
    is_bad = {pair: prices[pair] is None for pair in prices}
    for tool, waits in rules:
        way = way_to(desk, comes, tool, all_hops(desk, comes, waits), is_bad)
        if way is not None:
            return way_history(desk, tool, way)
    return None


def loud_holds(desk, rules, value):
    """Whether any value is such a run, told by tuples."""
    waits = {tool: lot for tool, lot in need_rules(desk, rules)}
    if not isinstance(value, tuple) or len(value) != 3:
        return False
    history = _history_told(desk, value[:2])
    if history is None or not is_below(value[2], len(history[1])):
        return False
    number = value[2]
    tool = history[1][number][0]
    if tool not in waits or any([one[0] in waits[tool] for one in history[1][number + 1:]]):
        return False
    twin = twin_behind(desk, history, (number,))
    return world_price(price_table(desk), history[0], world_behind(desk, history), twin) is None


def _history_told(desk, value):
    """The history that any value is, in tuples throughout, None if it is none."""
    try:
        history = need_history(desk, value)
    except InvalidHistory:
        return None
    return history if is_just(value, history) else None
