"""Walls: the least standings from which what is feared can come, and stories that come to it."""

from lateno.errors import InvalidPlan, InvalidSize
from lateno.flows import all_flows, heap_less, lies_within
from lateno.nets import FIRST, fits, history_of, is_standing, need_net
from lateno.pairs import price_table
from lateno.plans import is_apart, need_plan_history, rows_along
from lateno.checks import all_choices, is_below, is_row_of

MOST_STANDINGS = 400


def wall(desk, plan, goal):
    """The least standings from which a standing with all strikes and a feared sort comes, ascending."""
    plan, comes, goal = _need_all(desk, plan, goal)
    return tuple(sorted(_searched(desk, plan, comes, goal)[0]))


def is_calm(desk, plan, goal):
    """Whether no history for the plan ever comes to what is feared."""
    plan, comes, goal = _need_all(desk, plan, goal)
    return FIRST not in _searched(desk, plan, comes, goal)[0]


def wall_holds(desk, plan, goal, value):
    """Whether any value is a tuple of standings, not the first one, above which all goals and all back of them lie."""
    plan, comes, goal = _need_all(desk, plan, goal)
    if not isinstance(value, tuple) or not all([is_standing(desk, plan, comes, one) for one in value]):
        return False
    if FIRST in value:
        return False
    least = {}
    for one in value:
        _put(least, one)
    wanted = [_goal_standing(plan, sort) for sort in _feared_sorts(desk, plan, comes, goal)]
    backs = _backs(all_flows(desk, plan, comes))
    for one in value:
        wanted.extend([ahead for ahead, _ in _back_from(plan, backs, one)])
    return all([_lies_above(least, one) for one in wanted])


def late_story(desk, plan, goal):
    """Some history whose run has the fewest moves to what is feared, None if the plan is calm."""
    plan, comes, goal = _need_all(desk, plan, goal)
    least, links = _searched(desk, plan, comes, goal)
    if FIRST not in least:
        return None
    moves = []
    standing = FIRST
    while standing in links:
        move, standing = links[standing]
        moves.append(move)
    return history_of(desk, plan, moves)


def late_story_holds(desk, plan, goal, history):
    """Whether some thing is feared at the end of a history for the plan."""
    plan, _, goal = _need_all(desk, plan, goal)
    history = need_plan_history(desk, plan, history)
    prices = price_table(desk)
    rows = rows_along(desk, plan, history)[1]
    return any([_is_feared(prices, plan, goal, kind, row) for kind, row in zip(history[0], rows)])


def _need_all(desk, plan, goal):
    """(the plan, what comes, the goal), in tuples."""
    plan, comes = need_net(desk, plan)
    return (plan, comes, _need_goal(plan, goal))


def _need_goal(plan, value):
    if value is None:
        return None
    many = len(plan[1]) + 1
    if not is_row_of(value, 2) or not is_below(value[0], many) or not is_below(value[1], many) or value[0] >= value[1]:
        raise InvalidPlan(("goal", -1))
    return tuple(value)


def _is_feared(prices, plan, goal, kind, row):
    if goal is None:
        return any([prices[(kind, row[parent], row[at])] is None for at, (parent, _) in enumerate(plan[1], start=1)])
    return row[goal[0]] != row[goal[1]]


def _feared_sorts(desk, plan, comes, goal):
    """All feared sorts, ascending."""
    prices = price_table(desk)
    found = []
    for kind, lot in enumerate(comes):
        rows = all_choices([lot] * (len(plan[1]) + 1))
        found.extend([(kind, row) for row in rows if is_apart(row) and _is_feared(prices, plan, goal, kind, row)])
    return found


def _goal_standing(plan, sort):
    return (tuple(range(len(plan[0]))), (sort,))


def _searched(desk, plan, comes, goal):
    """(the wall; for each standing met that is no goal the move, and the standing, by which a goal is nearest)."""
    least = {}
    layer = [_goal_standing(plan, sort) for sort in _feared_sorts(desk, plan, comes, goal)]
    for one in layer:
        _put(least, one)
    _need_size(least)
    backs = _backs(all_flows(desk, plan, comes))
    links = {}
    while layer:
        found = {}
        for one in layer:
            for ahead, move in _back_from(plan, backs, one):
                if ahead not in found and ahead not in links:
                    found[ahead] = (move, one)
        layer = []
        # small heaps first: so nothing that is put in is above what is put in later
        for ahead in sorted(found, key=_heap_size):
            if not _lies_above(least, ahead):
                links[ahead] = found[ahead]
                _take_out_above(least, ahead)
                _put(least, ahead)
                layer.append(ahead)
        _need_size(least)
    return (_standings_in(least), links)


def _heap_size(standing):
    return len(standing[1])


def _backs(flows):
    """For each lot of strikes (flows there that take nothing; for each sort flows there that give it)."""
    backs = {done: ([], {}) for done in flows}
    for ahead in flows:
        for behind, takes, gives, move in flows[ahead]:
            free, giving = backs[behind]
            flow = (ahead, takes, gives, move)
            if not takes:
                free.append(flow)
            else:
                # a sort that is given twice puts the flow there once
                for sort in {one: True for one in gives}:
                    giving.setdefault(sort, []).append(flow)
    return backs


def _back_from(plan, backs, standing):
    """(standing ahead, move) for all that is back by one move, but for such as lie above others of these or this."""
    done, heap = standing
    free, giving = backs[done]
    flows = list(free)
    # a move that gives nothing of the heap leads back above the heap itself, or above what a free move leads to
    for sort in {one: True for one in heap}:
        flows.extend(giving.get(sort, []))
    found = []
    for ahead, takes, gives, move in flows:
        left = heap_less(heap, gives)
        if ahead == done or all([fits(plan, ahead, row) for _, row in left]):
            found.append(((ahead, tuple(sorted(list(takes) + left))), move))
    return found


def _put(least, standing):
    """Puts a standing among the least ones, by its strikes and its first sort."""
    done, heap = standing
    least.setdefault(done, {}).setdefault(heap[:1], []).append(heap)


def _lies_above(least, standing):
    """Whether a standing lies above one of the least ones."""
    done, heap = standing
    by_first = least.get(done, {})
    if () in by_first:
        return True
    for sort in {one: True for one in heap}:
        if any([lies_within(other, heap) for other in by_first.get((sort,), [])]):
            return True
    return False


def _take_out_above(least, standing):
    done, heap = standing
    kept = {}
    for first, others in least.get(done, {}).items():
        left = [other for other in others if not lies_within(heap, other)]
        if left:
            kept[first] = left
    least[done] = kept


def _standings_in(least):
    return [(done, heap) for done in least for heaps in list(least[done].values()) for heap in heaps]


def _need_size(least):
    if len(_standings_in(least)) > MOST_STANDINGS:
        raise InvalidSize("wall")
