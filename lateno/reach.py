"""What comes: the states that things can have, and histories that bring them."""

from lateno.errors import InvalidSize, InvalidWants, Refused
from lateno.checks import is_below, is_rising, is_row, is_row_of

MOST_THINGS = 4000


def what_comes(desk):
    """For each kind the states that come."""
    return comes_from(desk, [(0,)] * len(desk.kinds))


def sorts(desk):
    """All pairs (kind, x, y) of unlike states that come."""
    return sorts_among(what_comes(desk))


def closed_holds(desk, value):
    """Whether any value is a tuple of lots of states with 0, one for each kind, that no row leads out of."""
    if not isinstance(value, tuple) or len(value) != len(desk.kinds):
        return False
    for kind, lot in zip(desk.kinds, value):
        if not isinstance(lot, tuple) or not is_rising(lot, kind[1]) or 0 not in lot:
            return False
    return comes_from(desk, value) == value


def ready(desk, wants):
    """Some history at whose end the thing of each want's number has its kind and state."""
    wants = _need_wants(desk, wants)
    needs = _needs(desk)
    for at, want in enumerate(wants):
        if want not in needs:
            raise Refused(at)
    if sum([needs[want][0] for want in wants]) > MOST_THINGS:
        raise InvalidSize("things")
    return _history_of_wants(desk, needs, wants)


def history_with(desk, wants):
    """As ready, of wants that come, however many things it takes."""
    return _history_of_wants(desk, _needs(desk), wants)


def comes_from(desk, lots):
    """The least lots with these that hold the behinds of each row whose befores they hold."""
    marks = [{state: True for state in lot} for lot in lots]
    grown = True
    while grown:
        grown = False
        for tool in desk.tools:
            for before, behind in tool[2]:
                if _all_marked(marks, tool[1], before) and not _all_marked(marks, tool[1], behind):
                    for kind, reached in zip(tool[1], behind):
                        marks[kind][reached] = True
                    grown = True
    return tuple([tuple(sorted(mark)) for mark in marks])


def is_possible(desk, comes, tool):
    """Whether some row of the tool has befores that come."""
    return any([row_comes(desk, comes, tool, row[0]) for row in desk.tools[tool][2]])


def row_comes(desk, comes, tool, before):
    """Whether all these befores of the tool's roles are among the lots."""
    return all([state in comes[kind] for kind, state in zip(desk.tools[tool][1], before)])


def sorts_among(lots):
    """All pairs (kind, x, y) of unlike states of these lots, ascending."""
    return tuple([(kind, x, y) for kind, lot in enumerate(lots) for x in lot for y in lot if x != y])


def _all_marked(marks, roles, states):
    return all([state in marks[kind] for kind, state in zip(roles, states)])


def _need_wants(desk, wants):
    if not is_row(wants):
        raise InvalidWants(-1)
    for at, want in enumerate(wants):
        if not is_row_of(want, 2) or not is_below(want[0], len(desk.kinds)):
            raise InvalidWants(at)
        if not is_below(want[1], desk.kinds[want[0]][1]):
            raise InvalidWants(at)
    return [tuple(want) for want in wants]


def _needs(desk):
    """For each (kind, state) that comes (fewest things, tool, befores, role): a row that brings it so."""
    needs = {(kind, 0): (1, -1, (), -1) for kind in range(len(desk.kinds))}
    grown = True
    while grown:
        grown = False
        for tool, (_, roles, rows) in enumerate(desk.tools):
            for before, behind in rows:
                wants = list(zip(roles, before))
                if not all([want in needs for want in wants]):
                    continue
                many = sum([needs[want][0] for want in wants])
                for role, state in enumerate(behind):
                    key = (roles[role], state)
                    if key not in needs or many < needs[key][0]:
                        needs[key] = (many, tool, before, role)
                        grown = True
    return needs


def _history_of_wants(desk, needs, wants):
    things = [kind for kind, _ in wants]
    tries = []
    for thing, (_, state) in enumerate(wants):
        _bring(desk, needs, things, tries, thing, state)
    return (tuple(things), tuple(tries))


def _bring(desk, needs, things, tries, thing, state):
    """Adds the tries, and things beside, that bring one thing from 0 to the state."""
    if state == 0:
        return
    # a need was told only when all befores of its row had theirs for good: so this ends
    _, tool, before, role = needs[(things[thing], state)]
    members = []
    for place, kind in enumerate(desk.tools[tool][1]):
        if place == role:
            members.append(thing)
        else:
            members.append(len(things))
            things.append(kind)
    for member, ahead in zip(members, before):
        _bring(desk, needs, things, tries, member, ahead)
    tries.append((tool, tuple(members)))
