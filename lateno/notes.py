"""Notes: what is read is a thing, and tools may lean on it."""

from lateno.desks import Desk, MOST_ROLES, MOST_STATES, need_tool
from lateno.errors import InvalidLot, InvalidSize
from lateno.checks import is_below, is_row

# a note has a state for each state that can be read, and is blank or spent beside
BLANK_AND_SPENT = 2


def noted(desk, kind, note, look):
    """The desk with notes of what things of the kind are, and with a tool that reads them."""
    if not is_below(kind, len(desk.kinds)) or desk.kinds[kind][1] + BLANK_AND_SPENT > MOST_STATES:
        raise InvalidSize("kind")
    many = desk.kinds[kind][1]
    rows = [((state, 0), (state, state + 1)) for state in range(many)]
    kinds = desk.kinds + ((note, many + BLANK_AND_SPENT),)
    return Desk(kinds, desk.tools + ((look, (kind, len(desk.kinds)), rows),), desk.repairs)


def leaning(desk, tool, note, lets, eats):
    """The desk with the tool bound to a note in one of these states, which it eats or keeps."""
    need_tool(desk, tool)
    name, roles, rows = desk.tools[tool]
    if len(roles) == MOST_ROLES:
        raise InvalidSize("tool")
    if not is_below(note, len(desk.kinds)) or desk.kinds[note][1] <= BLANK_AND_SPENT:
        raise InvalidSize("note")
    spent = desk.kinds[note][1] - 1
    lets = _need_lets(lets, spent)
    if not isinstance(eats, bool):
        raise InvalidSize("eats")
    leant = [(before + (state,), behind + (spent if eats else state,)) for before, behind in rows for state in lets]
    tools = desk.tools[:tool] + ((name, roles + (note,), leant),) + desk.tools[tool + 1:]
    return Desk(desk.kinds, tools, desk.repairs)


def _need_lets(value, spent):
    """The lot of states between blank and spent, in a tuple, if the value is one and not empty."""
    if not is_row(value) or not value:
        raise InvalidLot(-1)
    ahead = 0
    for at, state in enumerate(value):
        if not is_below(state, spent) or state <= ahead:
            raise InvalidLot(at)
        ahead = state
    return tuple(value)
