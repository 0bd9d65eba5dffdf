"""Faces: what of a house is seen at the seam, enough to tell what is safe beside it."""

from lateno.desks import need_tool
from lateno.errors import InvalidLots, InvalidSort, InvalidWaits
from lateno.guards import given_lines
from lateno.houses import closed_lots, comes_with, need_house
from lateno.lines import sorts_behind
from lateno.pairs import price_table
from lateno.reach import sorts_among
from lateno.steps import apart_of, beginnings_with, need_sort
from lateno.checks import is_number, is_row, is_row_of, rising_until

LOST = ("lost",)


def comes_to(house, waits, lots, sort):
    """What a sort of the seam comes to there, under closed lots; ("lost",) if what can't be put right is met."""
    need_house(house)
    waits = _need_waits(house, waits)
    comes = _need_closed(house, lots)
    own = ((),) * (len(comes) - house.many)
    sort = need_sort(house.desk, comes[:house.many] + own, sort)
    return _come_to(house, price_table(house.desk), _lines_in(house, waits, comes), sort)


def order_of(sorts):
    """The least ascending tuple of sorts with these that has (k, x, y) with (k, x, h) and (k, h, y)."""
    return _order_of(_need_sorts(sorts))


def face_of(house, waits):
    """(lots, (sort, what it comes to, in order, or ("lost",)) for the seam's sorts of these) for all closed lots."""
    need_house(house)
    waits = _need_waits(house, waits)
    prices = price_table(house.desk)
    face = []
    for lots in closed_lots(house):
        lines = _lines_in(house, waits, comes_with(house, lots))
        rows = []
        for sort in sorts_among(lots):
            told = _come_to(house, prices, lines, sort)
            rows.append((sort, told if told == LOST else _order_of(told)))
        face.append((lots, tuple(rows)))
    return tuple(face)


def is_beside(face, house, tool, waits):
    """Whether each No to the house's tool can be put right beside a house with this face."""
    need_house(house)
    need_tool(house.desk, tool)
    waits = _need_waits(house, waits)
    rows_by_lots = _rows_by_lots(face)
    lots = _least_common(rows_by_lots, house)
    orders = rows_by_lots[lots]
    comes = comes_with(house, lots)
    lines = _lines_in(house, waits, comes)
    prices = price_table(house.desk)
    is_lost = {sort: prices[sort] is None for sort in lines}
    for sort in orders:
        if orders[sort] == LOST:
            is_lost[sort] = True
        else:
            # beside the other house a sort of the seam comes to its whole order, too
            lines[sort] = lines[sort] + [(0, orders[sort])]
    begun = [pair for _, pairs in beginnings_with(house.desk, comes, tool) for pair in apart_of(pairs)]
    return not any([is_lost[sort] for pair in begun for sort in sorts_behind(lines, pair)])


def join_faces(face, other):
    """The face of two joined houses, from their faces."""
    here = _rows_by_lots(face)
    there = _rows_by_lots(other)
    joined = []
    for lots in sorted([lots for lots in here if lots in there]):
        rows = [(sort, _joined_order(here[lots], there[lots], sort)) for sort in sorted(here[lots])]
        joined.append((lots, tuple(rows)))
    return tuple(joined)


def no_worse(face, other):
    """Whether what is safe beside the other face's house is safe beside this one's, whatever joins."""
    here = _rows_by_lots(face)
    there = _rows_by_lots(other)
    for lots in there:
        if lots not in here:
            return False
        for sort in there[lots]:
            if not _is_no_worse(here[lots][sort], there[lots][sort]):
                return False
    return True


def many_states(lots):
    """How many states all these lots have."""
    return sum([len(lot) for lot in lots])


def _need_waits(house, value):
    """The lot of the house's tools in a tuple, if the value is one."""
    if not is_row(value):
        raise InvalidWaits(-1)
    at = rising_until(value, len(house.desk.tools))
    if at < len(value):
        raise InvalidWaits(at)
    return tuple(value)


def _need_closed(house, value):
    """For each kind what comes with these lots of the seam, if they are closed."""
    comes = comes_with(house, value)
    if [len(lot) for lot in comes[:house.many]] != [len(lot) for lot in value]:
        raise InvalidLots(-1)
    return comes


def _need_sorts(value):
    """The sorts in tuples, if the value is a sequence of kinds with two unlike numbers."""
    if not is_row(value):
        raise InvalidSort(-1)
    for at, sort in enumerate(value):
        if not is_row_of(sort, 3) or not all([is_number(one) for one in sort]) or sort[1] == sort[2]:
            raise InvalidSort(at)
    return [tuple(sort) for sort in value]


def _order_of(sorts):
    firsts = {}
    for kind, x, y in sorts:
        firsts.setdefault((kind, x), []).append(y)
    return tuple(sorted([(kind, x, y) for kind, x in firsts for y in _led_to(firsts, kind, x) if x != y]))


def _led_to(firsts, kind, x):
    """All that a row of these pairs of a kind leads to from x."""
    found = {}
    left = [x]
    while left:
        state = left.pop()
        for y in firsts.get((kind, state), []):
            if y not in found:
                found[y] = True
                left.append(y)
    return found


def _lines_in(house, waits, comes):
    """For each sort of what comes what the house's steps give, as lines without gain."""
    return given_lines(house.desk, comes, sorts_among(comes), waits)


def _come_to(house, prices, lines, sort):
    """As comes_to, of a house with these least prices and lines."""
    behind = sorts_behind(lines, sort)
    if any([prices[other] is None for other in behind]):
        return LOST
    return tuple(sorted([other for other in behind if other[0] < house.many]))


def _rows_by_lots(face):
    """For each lots of a face a dict of its rows, in tuples."""
    found = {}
    for lots, rows in face:
        told = {}
        for sort, comes in rows:
            told[tuple(sort)] = LOST if tuple(comes) == LOST else tuple([tuple(other) for other in comes])
        found[tuple([tuple(lot) for lot in lots])] = told
    return found


def _least_common(rows_by_lots, house):
    """The least lots of a face that are closed for a house, too."""
    common = [lots for lots in closed_lots(house) if lots in rows_by_lots]
    # what both are closed for lies in each other such lots where it is least, so it has the fewest states
    return min(common, key=many_states)


def _joined_order(here, there, sort):
    """What a sort comes to in two joined houses, by the rows of their faces for the same lots."""
    order = (sort,)
    while True:
        if any([LOST in (here[one], there[one]) for one in order]):
            return LOST
        wider = _order_of([other for one in order for other in (one,) + here[one] + there[one]])
        if wider == order:
            return order
        order = wider


def _is_no_worse(told, other):
    if told == LOST or other == LOST:
        return other == LOST
    return all([sort in other for sort in told])
