"""Parting: a partner house that is safe beside just one of two houses, where they are not alike."""

from lateno.desks import Desk
from lateno.errors import InvalidSeam
from lateno.faces import LOST, face_of, is_beside, many_states
from lateno.houses import House, have_common_name, join_houses, seam_of
from lateno.lots import lies_in
from lateno.checks import is_below, is_rising

LETTERS = "abcdefghijklmnopqrstuvwxyz"
# a note is fresh, 1 or 2
NOTES = 3


def parting(house, other):
    """Some (partner, tool, waits, side) that is safe beside just one of two houses, None if they are alike."""
    _need_one_seam(house, other)
    kinds, _ = seam_of(house)
    faces = (face_of(house, ()), face_of(other, ()))
    # the side is where the No to the partner's first tool can always be put right
    for side in range(2):
        told = _told_apart(kinds, faces[side], faces[1 - side])
        if told is not None:
            lots, tools, waits = told
            return (_partner(house, other, tools + _brings(kinds, lots)), 0, waits, side)
    return None


def parting_holds(house, other, value):
    """Whether any value is such a partner, tool, waits and side."""
    _need_one_seam(house, other)
    if not isinstance(value, tuple) or len(value) != 4 or not isinstance(value[0], House):
        return False
    partner, tool, waits, side = value
    many = len(partner.desk.tools)
    if not is_below(tool, many) or not isinstance(waits, tuple) or not is_rising(waits, many) or not is_below(side, 2):
        return False
    if seam_of(partner) != seam_of(house) or _have_common_names(partner, house) or _have_common_names(partner, other):
        return False
    is_safe = [is_beside(face_of(one, ()), partner, tool, waits) for one in (house, other)]
    if not is_safe[side] or is_safe[1 - side]:
        return False
    # what is too large to be joined is refused only where all else is right
    join_houses(house, partner)
    join_houses(other, partner)
    return True


def _need_one_seam(house, other):
    if seam_of(house) != seam_of(other):
        raise InvalidSeam("seam")


def _have_common_names(partner, house):
    kinds = have_common_name(partner.desk.kinds[partner.many:], house.desk.kinds[house.many:])
    return kinds or have_common_name(partner.desk.tools, house.desk.tools)


def _told_apart(kinds, safe, unsafe):
    """(lots to bring, the partner's first tools by roles and rows, what waits) that part two faces so, else None."""
    others = {lots: rows for lots, rows in unsafe}
    for lots, rows in safe:
        if lots not in others:
            return (lots, [_turn(kinds, _state_beyond(lots, others))], ())
        for (sort, told), (_, other) in zip(rows, others[lots]):
            if told == LOST or told == other:
                continue
            if other == LOST:
                return (lots, [_make(sort)], (0,))
            more = [pair for pair in other if pair not in told]
            if more:
                return (lots, [_make(sort), _take(kinds, more[0], told)], (0,))
    return None


def _state_beyond(lots, closed):
    """Some (kind, state) not in the lots that lies in all of the closed ones around them."""
    around = [other for other in closed if all([lies_in(lot, wider) for lot, wider in zip(lots, other)])]
    least = min(around, key=many_states)
    return [(kind, state) for kind, lot in enumerate(least) for state in lot if state not in lots[kind]][0]


def _turn(kinds, at):
    """A tool that turns a fresh note, beyond repair, at a state alone; the notes are the kind behind the seam's."""
    kind, state = at
    return ((kind, len(kinds)), (((state, 0), (state, 1)),))


def _make(sort):
    """A tool the No to which begins with a sort."""
    kind, x, y = sort
    return ((kind,), (((y,), (x,)),))


def _take(kinds, pair, order):
    """A tool that makes things alike, and notes which were in the lot of what an order leads to from the pair's first.

    A note 1 that should be 2 can't be put right, so a pair that leads out of this lot is lost.
    """
    kind, first, _ = pair
    lot = [first] + [y for other, x, y in order if (other, x) == (kind, first)]
    return ((kind, len(kinds)), [((state, 0), (0, 1 if state in lot else 2)) for state in range(kinds[kind][1])])


def _brings(kinds, lots):
    """For each state of the lots a tool that puts every state there: it brings it, and parts nothing."""
    brings = []
    for kind, lot in enumerate(lots):
        rows = [(other,) for other in range(kinds[kind][1])]
        brings.extend([((kind,), [(before, (state,)) for before in rows]) for state in lot[1:]])
    return brings


def _partner(house, other, tools):
    """The house with the seam of both, notes of its own, and these tools, names unlike both's."""
    kinds, repairs = seam_of(house)
    own = _fresh_names(house.desk.kinds + other.desk.kinds, 1)
    names = _fresh_names(house.desk.tools + other.desk.tools, len(tools))
    named = [(name, roles, rows) for name, (roles, rows) in zip(names, tools)]
    return House(Desk(kinds + ((own[0], NOTES),), named, repairs + ((len(kinds), 2, 1, 1),)), len(kinds))


def _fresh_names(told, many):
    """So many names that none of these kinds (or tools) has."""
    taken = [one[0] for one in told]
    return [one + other for one in LETTERS for other in LETTERS if one + other not in taken][:many]
