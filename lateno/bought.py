"""Bought: what each lot is worth, and what is least and cheapest for several tools that run ahead."""

from lateno.crossings import serving_lots
from lateno.desks import need_offers, need_tool
from lateno.errors import InvalidCosts, InvalidTools
from lateno.guards import Offered, every_guard, keeps, need_promise, value_rank
from lateno.lots import least_crossings, least_of, others_of
from lateno.checks import all_lots, is_just, is_number, is_row, is_row_of, rising_until


def stairs(desk, offers, tool):
    """(lot, value) of all lots whose value is better than that of each lesser lot within, ascending."""
    offers = need_offers(desk, offers)
    need_tool(desk, tool)
    offered = Offered(desk, offers)
    values = {lot: offered.of_tool(tool, lot) for lot in all_lots(every_guard(desk, offers))}
    found = []
    for lot in values:
        rank = value_rank(values[lot])
        # fewer guards are never better, so one less is all that must be looked at
        if all([rank < value_rank(values[others_of(lot, (one,))]) for one in lot]):
            found.append((lot, values[lot]))
    return tuple(sorted(found))


def lots_from(rows, promise):
    """The least lots among these stairs whose value keeps the promise, ascending."""
    promise = need_promise(promise)
    lots = [tuple([tuple(one) for one in lot]) for lot, value in rows if keeps(tuple(value), promise)]
    return least_of(lots)


def whole_lots(desk, offers, tools, promise):
    """All least lots with which each of these tools' promise is kept, ascending."""
    return least_crossings(whole_breaks(desk, offers, tools, promise))


def whole_breaks(desk, offers, tools, promise):
    """All least breaks of the promise for these tools together, ascending."""
    offers = need_offers(desk, offers)
    tools = _need_tools(desk, tools)
    return _whole_breaks(desk, offers, tools, need_promise(promise))


def cheapest(desk, offers, tools, promise, costs):
    """(the least sum of costs, all lots of this sum that keep the promise, ascending), None if none does."""
    offers = need_offers(desk, offers)
    tools = _need_tools(desk, tools)
    promise = need_promise(promise)
    told = _need_costs(_whole_guards(desk, offers, tools), costs)
    # each guard costs something, so only least lots are cheapest
    lots = least_crossings(_whole_breaks(desk, offers, tools, promise))
    if not lots:
        return None
    sums = {lot: sum([told[guard] for guard in lot]) for lot in lots}
    least = min([sums[lot] for lot in lots])
    return (least, tuple([lot for lot in lots if sums[lot] == least]))


def _whole_breaks(desk, offers, tools, promise):
    """As whole_breaks, of arguments in tuples."""
    found = []
    for tool in tools:
        for lot in least_crossings(serving_lots(desk, offers, tool, promise)):
            found.append(tuple([_guard_of_tool(tool, guard) for guard in lot]))
    return least_of(found)


def _guard_of_tool(tool, guard):
    """A guard with which a tool is looked at alone, told with the tool if it is a wait."""
    word, number = guard
    return guard if word == "buy" else (word, tool, number)


def _whole_guards(desk, offers, tools):
    """All guards of a whole desk, ascending."""
    buys = [("buy", number) for number in range(len(offers))]
    return tuple(buys + [("wait", tool, other) for tool in tools for other in range(len(desk.tools))])


def _need_tools(desk, value):
    """The lot of tools in a tuple, if the value is one and not empty."""
    if not is_row(value) or not value:
        raise InvalidTools(-1)
    at = rising_until(value, len(desk.tools))
    if at < len(value):
        raise InvalidTools(at)
    return tuple(value)


def _need_costs(guards, value):
    """For each guard its cost, if the value tells them."""
    if not is_row_of(value, len(guards)):
        raise InvalidCosts(-1)
    told = {}
    for at, (guard, row) in enumerate(zip(guards, value)):
        if not is_row_of(row, 2) or not is_row(row[0]) or not is_just(tuple(row[0]), guard):
            raise InvalidCosts(at)
        if not is_number(row[1]) or row[1] == 0:
            raise InvalidCosts(at)
        told[guard] = row[1]
    return told
