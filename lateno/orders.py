"""Orders: what Nos in a row cost, and whether their order matters."""

from lateno.plans import both_plan, need_struck_tools, no_plan
from lateno.prices import worst
from lateno.walls import is_calm, late_story

# the columns of both_plan in which both Nos have come, in the one order and in the other
BOTH_ORDERS = (3, 4)


def row_worst(desk, tools):
    """What Nos in a row cost together at worst: ("bad",), ("grows",) or ("most", n)."""
    tools = need_struck_tools(desk, tools)
    told = [worst(desk, no_plan(tool)) for tool in tools]
    for word in ("bad", "grows"):
        if (word,) in told:
            return (word,)
    return ("most", sum([value[1] for value in told]))


def order_matters(desk, one, other):
    """Whether two Nos leave some history unlike in the one order and in the other."""
    return not is_calm(desk, both_plan(one, other), BOTH_ORDERS)


def order_story(desk, one, other):
    """Some such history whose run has the fewest moves, None if there is none."""
    return late_story(desk, both_plan(one, other), BOTH_ORDERS)
