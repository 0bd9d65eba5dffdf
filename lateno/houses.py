"""Houses: desks that share a seam of kinds, and what comes in them."""

from lateno.desks import Desk
from lateno.errors import InvalidHouse, InvalidLots, InvalidSeam
from lateno.reach import comes_from
from lateno.checks import all_choices, all_lots, is_below, is_rising, is_row


class House:
    """A desk whose first kinds are a seam; it never changes."""

    def __init__(self, desk, many):
        if not isinstance(desk, Desk) or not is_below(many, len(desk.kinds) + 1) or many == 0:
            raise InvalidHouse(-1)
        self.desk = desk
        self.many = many
        self.told = (desk.told, many)


def seam_of(house):
    """(the seam's kinds, the repairs of the seam's kinds)."""
    need_house(house)
    repairs = [repair for repair in house.desk.repairs if repair[0] < house.many]
    return (house.desk.kinds[:house.many], tuple(repairs))


def join_houses(house, other):
    """The house of all kinds, tools and repairs of both, the seam once."""
    need_house(house)
    need_house(other)
    _need_joinable(house, other)
    one, two = house.desk, other.desk
    ahead = len(one.kinds) - house.many
    own = [repair for repair in two.repairs if repair[0] >= other.many]
    repairs = [(kind + ahead, x, y, price) for kind, x, y, price in own]
    tools = [(name, _numbered_anew(roles, other.many, ahead), rows) for name, roles, rows in two.tools]
    # the other's own kinds stand behind all kinds of the house, so the repairs stay ascending
    desk = Desk(one.kinds + two.kinds[other.many:], one.tools + tuple(tools), one.repairs + tuple(repairs))
    return House(desk, house.many)


def comes_with(house, lots):
    """For each kind what comes if things of the seam also begin in all states of these lots."""
    need_house(house)
    lots = need_lots(house, lots)
    return _comes_with(house, lots)


def closed_lots(house):
    """All lots of the seam that comes_with tells again there, ascending."""
    need_house(house)
    choices = all_choices([_lots_with_first(kind[1]) for kind in house.desk.kinds[:house.many]])
    return tuple([lots for lots in choices if _comes_with(house, lots)[:house.many] == lots])


def need_house(value):
    """Raises the error for what is no house."""
    if not isinstance(value, House):
        raise InvalidHouse(-1)


def need_lots(house, value):
    """The lots of the house's seam in tuples, if the value is such."""
    if not is_row(value):
        raise InvalidLots(-1)
    for kind in range(house.many):
        if kind == len(value) or not is_rising(value[kind], house.desk.kinds[kind][1]) or 0 not in value[kind]:
            raise InvalidLots(kind)
    if len(value) > house.many:
        raise InvalidLots(house.many)
    return tuple([tuple(lot) for lot in value])


def have_common_name(told, others):
    """Whether one of these kinds (or tools) has a name that one of the others has."""
    names = [one[0] for one in others]
    return any([one[0] in names for one in told])


def _need_joinable(house, other):
    if seam_of(house) != seam_of(other):
        raise InvalidSeam("seam")
    if have_common_name(house.desk.kinds[house.many:], other.desk.kinds[other.many:]):
        raise InvalidSeam("kinds")
    if have_common_name(house.desk.tools, other.desk.tools):
        raise InvalidSeam("tools")


def _numbered_anew(roles, many, ahead):
    """The roles with all kinds behind the seam moved on."""
    return tuple([kind if kind < many else kind + ahead for kind in roles])


def _comes_with(house, lots):
    own = [(0,)] * (len(house.desk.kinds) - house.many)
    return comes_from(house.desk, list(lots) + own)


def _lots_with_first(many):
    """All lots of so many states with 0 among them, ascending."""
    return sorted([(0,) + lot for lot in all_lots(list(range(1, many)))])
