"""The net of a plan: standings of things that are apart, and moves that lead on."""

from lateno.errors import InvalidMoves, InvalidSize
from lateno.plans import heap_told, is_apart, need_plan, need_plan_history, rows_along, turned
from lateno.reach import history_with, what_comes
from lateno.checks import all_choices, is_below, is_rising, is_row, is_whole

MOST_ROWS = 3000
FIRST = ((), ())


def net_moves(desk, plan, done):
    """All moves behind these strikes, ascending."""
    plan, comes = need_net(desk, plan)
    return moves_behind(desk, plan, comes, tuple(done))


def net_steps(desk, plan, standing):
    """All (move, standing behind) of the moves that can be done at a standing, ascending."""
    plan, comes = need_net(desk, plan)
    return steps_behind(desk, plan, comes, _told_standing(standing))


def net_led(desk, plan, moves):
    """The standing to which moves lead from the first one."""
    plan, comes = need_net(desk, plan)
    return led_by(desk, plan, comes, FIRST, moves)


def run_of(desk, plan, history):
    """The moves of a history: of its struck deeds, and of those of things of which one was apart."""
    plan, _ = need_net(desk, plan)
    things, deeds, struck = need_plan_history(desk, plan, history)
    strikes = {number: strike for strike, number in enumerate(struck)}
    told, _ = rows_along(desk, plan, (things, deeds, struck))
    moves = []
    for number, (rows, _) in enumerate(told):
        strike = strikes.get(number, -1)
        if strike != -1 or _some_apart(rows):
            moves.append((deeds[number][0], rows, strike))
    return tuple(moves)


def history_of(desk, plan, moves):
    """Some history for the plan whose run is these moves."""
    plan, comes = need_net(desk, plan)
    done, _ = led_by(desk, plan, comes, FIRST, moves)
    if len(done) < len(plan[0]):
        raise InvalidMoves(len(moves))
    things, ahead = history_with(desk, _alike_wants(desk, moves))
    deeds, struck = _deeds_of_moves(desk, plan, moves)
    numbers = [struck[strike] + len(ahead) for strike in range(len(struck))]
    return (things, ahead + tuple(deeds), tuple(numbers))


def need_net(desk, plan):
    """(the plan in tuples, what comes), if it is a plan and its net is not too large."""
    plan = need_plan(desk, plan)
    comes = what_comes(desk)
    total = 0
    for tool in desk.tools:
        many = 1
        for kind in tool[1]:
            for _ in range(len(plan[1]) + 1):
                many = many * len(comes[kind])
        total += many
    if total > MOST_ROWS:
        raise InvalidSize("net")
    return (plan, comes)


def moves_behind(desk, plan, comes, done):
    """As net_moves, of a plan in tuples and with what comes."""
    fitting = [_fitting_rows(plan, lot, done) for lot in comes]
    moves = []
    for tool, (_, roles, _) in enumerate(desk.tools):
        for rows in all_choices([fitting[kind] for kind in roles]):
            if desk.behind(tool, [row[0] for row in rows]) is not None:
                moves.extend([(tool, rows, strike) for strike in _strikes_for(plan, done, tool, rows)])
    return tuple(sorted(moves))


def steps_behind(desk, plan, comes, standing):
    """As net_steps, of a standing in tuples."""
    found = []
    for move in moves_behind(desk, plan, comes, standing[0]):
        behind = _led_on(desk, plan, standing, move)
        if behind is not None:
            found.append((move, behind))
    return tuple(found)


def led_by(desk, plan, comes, standing, moves):
    """The standing to which moves lead from this one, if each can be done in its place."""
    if not is_row(moves):
        raise InvalidMoves(-1)
    for at, value in enumerate(moves):
        if not _is_move(desk, plan, comes, standing[0], value):
            raise InvalidMoves(at)
        standing = _led_on(desk, plan, standing, value)
        if standing is None:
            raise InvalidMoves(at)
    return standing


def is_standing(desk, plan, comes, value):
    """Whether any value is a standing of fitting rows, in tuples."""
    if not isinstance(value, tuple) or len(value) != 2:
        return False
    done, heap = value
    if not isinstance(done, tuple) or not is_rising(done, len(plan[0])) or not isinstance(heap, tuple):
        return False
    if not all([_is_sort(desk, plan, comes, done, sort) for sort in heap]):
        return False
    return all([one <= other for one, other in zip(heap, heap[1:])])


def fits(plan, done, row):
    """Whether each column of a row whose strike has not come has its parent's state."""
    return all([strike in done or row[at] == row[parent] for at, (parent, strike) in enumerate(plan[1], start=1)])


def _is_sort(desk, plan, comes, done, value):
    """Whether any value is a sort of a fitting row."""
    if not isinstance(value, tuple) or len(value) != 2 or not is_below(value[0], len(desk.kinds)):
        return False
    kind, row = value
    if not isinstance(row, tuple) or len(row) != len(plan[1]) + 1:
        return False
    if not all([is_whole(state) and state in comes[kind] for state in row]):
        return False
    return is_apart(row) and fits(plan, done, row)


def heap_in_tuples(heap):
    """A heap that is handed in, in tuples."""
    return tuple([(kind, tuple(row)) for kind, row in heap])


def _told_standing(standing):
    done, heap = standing
    return (tuple(done), heap_in_tuples(heap))


def _some_apart(rows):
    return any([is_apart(row) for row in rows])


def _fitting_rows(plan, lot, done):
    """All rows of these states in which columns whose strike has not come have their parent's state."""
    rows = [(state,) for state in lot]
    for parent, strike in plan[1]:
        if strike in done:
            rows = [row + (state,) for row in rows for state in lot]
        else:
            rows = [row + (row[parent],) for row in rows]
    return rows


def _strikes_for(plan, done, tool, rows):
    """The strikes that a move of the tool on these rows may have; -1 for none."""
    strikes = [-1] if _some_apart(rows) else []
    return strikes + [at for at, struck in enumerate(plan[0]) if struck == tool and at not in done]


def _led_on(desk, plan, standing, move):
    """The standing behind a move, None if what it takes isn't there."""
    done, heap = standing
    tool, rows, strike = move
    roles = desk.tools[tool][1]
    left = list(heap)
    for sort in heap_told(roles, rows):
        if sort not in left:
            return None
        left.remove(sort)
    _, behind = turned(desk, plan, tool, rows, strike)
    strikes = done if strike == -1 else tuple(sorted(done + (strike,)))
    return (strikes, tuple(sorted(left + list(heap_told(roles, behind)))))


def _is_move(desk, plan, comes, done, value):
    """Whether any value is a move behind these strikes."""
    if not isinstance(value, tuple) or len(value) != 3 or not is_below(value[0], len(desk.tools)):
        return False
    tool, rows, strike = value
    roles = desk.tools[tool][1]
    if not isinstance(rows, tuple) or len(rows) != len(roles):
        return False
    for kind, row in zip(roles, rows):
        # a bool is equal to an integer, so the states are looked at first
        if not isinstance(row, tuple) or not all([is_whole(state) for state in row]):
            return False
        if row not in _fitting_rows(plan, comes[kind], done):
            return False
    if desk.behind(tool, [row[0] for row in rows]) is None:
        return False
    return is_whole(strike) and strike in _strikes_for(plan, done, tool, rows)


def _alike_wants(desk, moves):
    """The (kind, state) of all rows of the moves that are alike in all columns, in order."""
    wants = []
    for tool, rows, _ in moves:
        wants.extend([(kind, row[0]) for kind, row in zip(desk.tools[tool][1], rows) if not is_apart(row)])
    return wants


def _deeds_of_moves(desk, plan, moves):
    """(the deeds of the moves, the number of each strike's deed); fresh things are numbered as they are taken."""
    deeds = []
    struck = {}
    fresh = 0
    # for each sort the things that are so apart
    stock = {}
    for tool, rows, strike in moves:
        roles = desk.tools[tool][1]
        members = []
        for kind, row in zip(roles, rows):
            if is_apart(row):
                members.append(stock[(kind, row)].pop())
            else:
                members.append(fresh)
                fresh += 1
        if strike != -1:
            struck[strike] = len(deeds)
        deeds.append((tool, tuple(members)))
        _, behind = turned(desk, plan, tool, rows, strike)
        for kind, row, member in zip(roles, behind, members):
            if is_apart(row):
                stock.setdefault((kind, row), []).append(member)
    return (deeds, struck)
