"""The bridge: what is refused turns nothing, so tries are the deeds of a desk that is total."""

from lateno.desks import Desk
from lateno.plans import need_plan, no_plan
from lateno.prices import worst
from lateno.checks import all_choices


def totalled(desk):
    """The desk with a row that turns nothing for all befores for which a tool has none."""
    tools = []
    for tool, (name, roles, _) in enumerate(desk.tools):
        befores = all_choices([list(range(desk.kinds[kind][1])) for kind in roles])
        tools.append((name, roles, [(before, _behind(desk, tool, before)) for before in befores]))
    return Desk(desk.kinds, tools, desk.repairs)


def bridge(desk, tool):
    """What one No to a deed of the tool costs at worst, over the totalled desk and over the desk."""
    plan = need_plan(desk, no_plan(tool))
    return (worst(totalled(desk), plan), worst(desk, plan))


def _behind(desk, tool, before):
    behind = desk.behind(tool, before)
    return before if behind is None else behind
