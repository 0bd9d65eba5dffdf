"""Steps: what a try does to one thing that is apart, and what a No leaves."""

from lateno.desks import need_tool
from lateno.errors import InvalidSort, InvalidStep
from lateno.reach import row_comes, what_comes
from lateno.checks import all_choices, is_below, is_row_of


def steps(desk, sort):
    """All steps (tool, role, others) of a sort, ascending."""
    comes = what_comes(desk)
    kind = need_sort(desk, comes, sort)[0]
    return steps_of_kind(desk, comes, kind)


def played(desk, sort, step):
    """(done in the one, done in the other, for each role the pair behind the step)."""
    comes = what_comes(desk)
    sort = need_sort(desk, comes, sort)
    step = right_step(desk, comes, sort[0], step)
    if step is None:
        raise InvalidStep(-1)
    return step_played(desk, sort, step)


def beginnings(desk, tool):
    """For each row that comes (its number, for each role the pair that a No to such a try leaves)."""
    need_tool(desk, tool)
    return beginnings_with(desk, what_comes(desk), tool)


def need_sort(desk, comes, sort):
    """The sort in a tuple, if it is one of these states that come."""
    if not is_row_of(sort, 3) or not is_below(sort[0], len(desk.kinds)):
        raise InvalidSort(-1)
    kind, x, y = sort
    if not _is_state_of(desk, comes, kind, x) or not _is_state_of(desk, comes, kind, y) or x == y:
        raise InvalidSort(-1)
    return (kind, x, y)


def steps_of_kind(desk, comes, kind):
    """All steps of any sort of the kind, ascending: which these are hangs on the kind alone."""
    found = []
    for tool, (_, roles, _) in enumerate(desk.tools):
        for role, one in enumerate(roles):
            if one == kind:
                rest = roles[:role] + roles[role + 1:]
                lots = [comes[other] for other in rest]
                found.extend([(tool, role, others) for others in all_choices(lots)])
    return tuple(found)


def step_played(desk, sort, step):
    """As played, of a sort and a step of it."""
    kind, x, y = sort
    tool, role, others = step
    here, done_here = _behind_or_same(desk, tool, others[:role] + (x,) + others[role:])
    there, done_there = _behind_or_same(desk, tool, others[:role] + (y,) + others[role:])
    return (done_here, done_there, tuple(list(zip(desk.tools[tool][1], here, there))))


def beginnings_with(desk, comes, tool):
    """As beginnings, of a tool and with the states that come."""
    found = []
    for number, (before, behind) in enumerate(desk.tools[tool][2]):
        if row_comes(desk, comes, tool, before):
            found.append((number, tuple(list(zip(desk.tools[tool][1], behind, before)))))
    return tuple(found)


def apart_of(pairs):
    """Those of these pairs (kind, x, y) that are apart."""
    return tuple([pair for pair in pairs if pair[1] != pair[2]])


def right_step(desk, comes, kind, value):
    """The value as a step of sorts of the kind, in tuples, None if it is none."""
    if not is_row_of(value, 3) or not is_below(value[0], len(desk.tools)):
        return None
    tool, role, others = value
    roles = desk.tools[tool][1]
    if not is_below(role, len(roles)) or roles[role] != kind:
        return None
    rest = roles[:role] + roles[role + 1:]
    if not is_row_of(others, len(rest)):
        return None
    if not all([_is_state_of(desk, comes, other, state) for other, state in zip(rest, others)]):
        return None
    return (tool, role, tuple(others))


def _is_state_of(desk, comes, kind, value):
    return is_below(value, desk.kinds[kind][1]) and value in comes[kind]


def _behind_or_same(desk, tool, befores):
    """(the states behind a try on these, whether it was done)."""
    behind = desk.behind(tool, befores)
    return (befores, False) if behind is None else (behind, True)
