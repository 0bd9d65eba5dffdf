"""Histories of tries, the worlds they lead to, and histories that are alike."""

from lateno.errors import InvalidHistory, InvalidSize
from lateno.checks import is_below, is_row, is_row_of

MOST_COUNTED = 12


def need_history(desk, value):
    """The history in tuples, if the value is one."""
    if not is_row_of(value, 2) or not is_row(value[0]) or not is_row(value[1]):
        raise InvalidHistory(-1)
    things, tries = value
    if not all([is_below(kind, len(desk.kinds)) for kind in things]):
        raise InvalidHistory(-1)
    told = []
    for at, one in enumerate(tries):
        right = right_try(desk, things, one)
        if right is None:
            raise InvalidHistory(at)
        told.append(right)
    return (tuple(things), tuple(told))


def tried(desk, world, one):
    """(the world behind one try, whether it was done)."""
    tool, members = one
    behind = desk.behind(tool, [world[member] for member in members])
    if behind is None:
        return (tuple(world), False)
    turned = list(world)
    for member, state in zip(members, behind):
        turned[member] = state
    return (tuple(turned), True)


def worlds_along(desk, history):
    """The world ahead of each try, and the last one."""
    things, tries = need_history(desk, history)
    worlds = [first_world(things)]
    for one in tries:
        worlds.append(tried(desk, worlds[-1], one)[0])
    return tuple(worlds)


def world_behind(desk, history):
    """The last world of a history."""
    return worlds_along(desk, history)[-1]


def outcomes(desk, history):
    """For each try whether it was done."""
    things, tries = need_history(desk, history)
    world = first_world(things)
    found = []
    for one in tries:
        world, done = tried(desk, world, one)
        found.append(done)
    return tuple(found)


def all_done(desk, history):
    """Whether all tries were done."""
    return all(outcomes(desk, history))


def thing_rows(desk, history):
    """For each thing the tries on it, in order."""
    things, tries = need_history(desk, history)
    rows = [[] for _ in things]
    for one in tries:
        for member in one[1]:
            rows[member].append(one)
    return tuple([tuple(row) for row in rows])


def alike_histories(desk, one, other):
    """Whether exchanges of neighbours without a common thing lead from one history to the other."""
    one = need_history(desk, one)
    other = need_history(desk, other)
    return one[0] == other[0] and thing_rows(desk, one) == thing_rows(desk, other)


def normal_history(desk, history):
    """The least of all histories that are alike with it."""
    things, tries = need_history(desk, history)
    left = list(tries)
    found = []
    while left:
        one = min([left[at] for at in _free_places(left)])
        # of equal tries the first is the free one: they share their things
        left.remove(one)
        found.append(one)
    return (things, tuple(found))


def alike_count(desk, history):
    """How many histories are alike with it."""
    tries = need_history(desk, history)[1]
    if len(tries) > MOST_COUNTED:
        raise InvalidSize("tries")
    aheads = [_ahead_lot(tries, at) for at in range(len(tries))]
    lots = 1 << len(tries)
    counts = [0] * lots
    counts[0] = 1
    # a lot of tries that can stand first is a number, with a bit for each
    for lot in range(lots):
        for at, ahead in enumerate(aheads):
            if not lot & (1 << at) and ahead & lot == ahead:
                counts[lot | (1 << at)] += counts[lot]
    return counts[-1]


def interleaved(desk, things, rows, turns):
    """The history in which the agents' rows of tries are done as the turns name the agents."""
    if not is_row(turns):
        raise InvalidHistory(-1)
    places = [0] * len(rows)
    tries = []
    for at, agent in enumerate(turns):
        if not is_below(agent, len(rows)) or places[agent] == len(rows[agent]):
            raise InvalidHistory(at)
        tries.append(rows[agent][places[agent]])
        places[agent] += 1
    return need_history(desk, (things, tries))


def first_world(things):
    """The world in which all things are as they begin."""
    return (0,) * len(things)


def right_try(desk, things, value):
    """The value as a try on these things, in tuples, None if it is none."""
    if not is_row_of(value, 2) or not is_below(value[0], len(desk.tools)):
        return None
    roles = desk.tools[value[0]][1]
    if not is_row_of(value[1], len(roles)):
        return None
    members = []
    for member, kind in zip(value[1], roles):
        if not is_below(member, len(things)) or things[member] != kind or member in members:
            return None
        members.append(member)
    return (value[0], tuple(members))


def _free_places(tries):
    """The places of the tries that no earlier one shares a thing with."""
    touched = {}
    free = []
    for at, one in enumerate(tries):
        if not any([member in touched for member in one[1]]):
            free.append(at)
        for member in one[1]:
            touched[member] = True
    return free


def _ahead_lot(tries, at):
    """The lot of earlier tries that share a thing with this one, as a number."""
    lot = 0
    for earlier in range(at):
        if any([member in tries[at][1] for member in tries[earlier][1]]):
            lot = lot | (1 << earlier)
    return lot
