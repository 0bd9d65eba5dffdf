"""Ways: rows of hops from what a No leaves, one pair going on from step to step, and histories that go them."""

from lateno.reach import history_with, sorts_among
from lateno.steps import apart_of, beginnings_with, right_step, step_played, steps_of_kind
from lateno.checks import is_below, is_just


def all_hops(desk, comes, waits):
    """For each sort all (hop, pair that it goes on with) by tools that don't wait, ascending."""
    found = {}
    for sort in sorts_among(comes):
        hops = []
        for step in steps_of_kind(desk, comes, sort[0]):
            if step[0] not in waits:
                pairs = step_played(desk, sort, step)[2]
                hops.extend([(step + (on,), pair) for on, pair in enumerate(pairs) if pair[1] != pair[2]])
        found[sort] = tuple(hops)
    return found


def first_ways(desk, comes, tool):
    """For each pair that a No to a try of the tool leaves apart the first (row, role) that does."""
    found = {}
    for row, pairs in beginnings_with(desk, comes, tool):
        for role, pair in enumerate(pairs):
            if pair[1] != pair[2]:
                found.setdefault(pair, (row, role))
    return found


def hops_behind(hops, starts):
    """For each sort that these sorts come to the fewest hops there: (the start, the hops); starts among them."""
    found = {start: (start, ()) for start in starts}
    layer = list(found)
    while layer:
        reached = []
        for sort in layer:
            start, told = found[sort]
            for hop, pair in hops[sort]:
                if pair not in found:
                    found[pair] = (start, told + (hop,))
                    reached.append(pair)
        layer = reached
    return found


def way_to(desk, comes, tool, hops, is_wanted):
    """Some way (row, role, hops) of the tool to a sort that is_wanted, a dict over sorts, marks True; else None."""
    firsts = first_ways(desk, comes, tool)
    behind = hops_behind(hops, firsts)
    for sort in behind:
        if is_wanted[sort]:
            start, told = behind[sort]
            return firsts[start] + (told,)
    return None


def hops_end(desk, comes, sort, value):
    """The sort that any value leads to from this one, if it is a tuple of hops, else None."""
    if not isinstance(value, tuple):
        return None
    for hop in value:
        sort = _hop_end(desk, comes, sort, hop)
        if sort is None:
            return None
    return sort


def way_end(desk, comes, tool, value):
    """The sort that any value leads to, if it is a way of the tool in tuples, else None."""
    if not isinstance(value, tuple) or len(value) != 3:
        return None
    row, role, hops = value
    pairs = [told for number, told in beginnings_with(desk, comes, tool) if is_just(row, number)]
    if not pairs or not is_below(role, len(pairs[0])) or not apart_of(pairs[0][role:role + 1]):
        return None
    return hops_end(desk, comes, pairs[0][role], hops)


def way_history(desk, tool, way):
    """(things, tries, number of the tool's try) of some history that goes a way; all else stands ready ahead of it."""
    row, role, hops = way
    wants = []
    tries = []
    members = add_first(desk, wants, tries, tool, row)
    thing = members[role]
    for hop in hops:
        thing = add_step(desk, wants, tries, thing, hop[:3])[hop[3]]
    return history_behind(desk, wants, tries)


def add_first(desk, wants, tries, tool, row):
    """Adds a try of the tool's row on fresh things; its members."""
    return _add_try(desk, wants, tries, tool, list(desk.tools[tool][2][row][0]), -1, -1)


def add_step(desk, wants, tries, thing, step):
    """Adds a try of a step on a thing and on fresh others; its members."""
    tool, role, others = step
    return _add_try(desk, wants, tries, tool, list(others[:role]) + [0] + list(others[role:]), role, thing)


def history_behind(desk, wants, tries):
    """(things, tries, number of the first of these tries) of a history in which they come behind all that is wanted."""
    things, ahead = history_with(desk, wants)
    return (things, ahead + tuple(tries), len(ahead))


def _hop_end(desk, comes, sort, value):
    """The sort that any value goes on with from this one, if it is a hop in tuples, else None."""
    if not isinstance(value, tuple) or len(value) != 4:
        return None
    step = right_step(desk, comes, sort[0], value[:3])
    if step is None or not is_just(value[:3], step):
        return None
    pairs = step_played(desk, sort, step)[2]
    if not is_below(value[3], len(pairs)) or not apart_of(pairs[value[3]:value[3] + 1]):
        return None
    return pairs[value[3]]


def _add_try(desk, wants, tries, tool, states, role, thing):
    """Adds a try on fresh things with these states, but for the thing of this role."""
    members = []
    for place, kind in enumerate(desk.tools[tool][1]):
        if place == role:
            members.append(thing)
        else:
            # the thing of a want has the want's number
            members.append(len(wants))
            wants.append((kind, states[place]))
    tries.append((tool, tuple(members)))
    return tuple(members)
