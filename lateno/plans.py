"""Plans of Nos: worlds side by side, in columns, where only what is done is known."""

from lateno.errors import InvalidHistory, InvalidPlan
from lateno.reach import is_possible, what_comes
from lateno.checks import is_below, is_row, is_row_of
from lateno.worlds import first_world, right_try, tried

MOST_STRIKES = 3
MOST_COLUMNS = 4


def no_plan(tool):
    """The plan of one No: the twin is column 1."""
    return ((tool,), ((0, 0),))


def row_plan(tools):
    """The plan of Nos in a row."""
    return (tuple(tools), tuple([(at, at) for at in range(len(tools))]))


def both_plan(one, other):
    """The plan of two Nos in both orders, which columns 3 and 4 are."""
    return ((one, other), ((0, 0), (0, 1), (1, 1), (2, 0)))


def columns_of(desk, plan, history):
    """For each thing its states at the end, by columns."""
    plan = need_plan(desk, plan)
    return rows_along(desk, plan, need_plan_history(desk, plan, history))[1]


def stands_of(desk, plan, history):
    """For each deed whether it stands, by columns."""
    plan = need_plan(desk, plan)
    told = rows_along(desk, plan, need_plan_history(desk, plan, history))[0]
    return tuple([stands for _, stands in told])


def heap_of(desk, plan, history):
    """The heap of all things that are apart at the end."""
    plan = need_plan(desk, plan)
    history = need_plan_history(desk, plan, history)
    return heap_told(history[0], rows_along(desk, plan, history)[1])


def need_plan(desk, plan):
    """The plan in tuples, if it is one."""
    if not is_row_of(plan, 2):
        raise InvalidPlan(("plan", -1))
    tools = need_struck_tools(desk, plan[0])
    return (tools, _need_columns(len(tools), plan[1]))


def need_struck_tools(desk, tools):
    """The tools of a plan in a tuple, if they are such."""
    if not is_row(tools) or not 1 <= len(tools) <= MOST_STRIKES:
        raise InvalidPlan(("tools", -1))
    comes = what_comes(desk)
    for at, tool in enumerate(tools):
        if not is_below(tool, len(desk.tools)) or not is_possible(desk, comes, tool):
            raise InvalidPlan(("tools", at))
    return tuple(tools)


def need_plan_history(desk, plan, history):
    """The history for the plan in tuples, if it is one."""
    if not is_row_of(history, 3):
        raise InvalidHistory(("history", -1))
    things, deeds, struck = history
    if not is_row(things):
        raise InvalidHistory(("things", -1))
    for at, kind in enumerate(things):
        if not is_below(kind, len(desk.kinds)):
            raise InvalidHistory(("things", at))
    deeds = _need_deeds(desk, things, deeds)
    return (tuple(things), deeds, _need_struck(plan[0], deeds, struck))


def rows_along(desk, plan, history):
    """(for each deed the rows ahead of it, and whether it stands; the things' rows at the end)."""
    things, deeds, struck = history
    rows = [(0,) * (len(plan[1]) + 1) for _ in things]
    strikes = {number: strike for strike, number in enumerate(struck)}
    told = []
    for number, (tool, members) in enumerate(deeds):
        ahead = tuple([rows[member] for member in members])
        stands, behind = turned(desk, plan, tool, ahead, strikes.get(number, -1))
        told.append((ahead, stands))
        for member, row in zip(members, behind):
            rows[member] = row
    return (tuple(told), tuple(rows))


def turned(desk, plan, tool, rows, strike):
    """(whether a deed on these rows stands, by columns; the rows behind it); strike -1 if it isn't struck."""
    stands = [True]
    worlds = [desk.behind(tool, [row[0] for row in rows])]
    for column, (parent, other) in enumerate(plan[1], start=1):
        ahead = tuple([row[column] for row in rows])
        behind = desk.behind(tool, ahead)
        stood = stands[parent] and other != strike and behind is not None
        stands.append(stood)
        worlds.append(behind if stood else ahead)
    return (tuple(stands), tuple(zip(*worlds)))


def heap_told(kinds, rows):
    """The heap of those of these rows, of these kinds, that are apart."""
    return tuple(sorted([(kind, row) for kind, row in zip(kinds, rows) if is_apart(row)]))


def is_apart(row):
    """Whether the states of a row are not all alike."""
    return any([state != row[0] for state in row])


def _need_columns(many, columns):
    if not is_row(columns) or not 1 <= len(columns) <= MOST_COLUMNS:
        raise InvalidPlan(("columns", -1))
    # for each column the strikes on its way to column 0
    ways = [()]
    told = []
    for at, pair in enumerate(columns):
        if not is_row_of(pair, 2) or not is_below(pair[0], at + 1) or not is_below(pair[1], many):
            raise InvalidPlan(("columns", at))
        parent, strike = pair
        if strike in ways[parent]:
            raise InvalidPlan(("columns", at))
        ways.append(ways[parent] + (strike,))
        told.append((parent, strike))
    return tuple(told)


def _need_deeds(desk, things, deeds):
    if not is_row(deeds):
        raise InvalidHistory(("deeds", -1))
    world = first_world(things)
    told = []
    for at, value in enumerate(deeds):
        deed = right_try(desk, things, value)
        if deed is None:
            raise InvalidHistory(("deeds", at))
        world, done = tried(desk, world, deed)
        if not done:
            raise InvalidHistory(("deeds", at))
        told.append(deed)
    return tuple(told)


def _need_struck(tools, deeds, struck):
    if not is_row_of(struck, len(tools)):
        raise InvalidHistory(("struck", -1))
    told = []
    for at, number in enumerate(struck):
        if not is_below(number, len(deeds)) or deeds[number][0] != tools[at] or number in told:
            raise InvalidHistory(("struck", at))
        told.append(number)
    return tuple(told)
