"""Desks: kinds of things, tools that turn them, and the desk's own repairs."""

from lateno.errors import InvalidDesk, InvalidOffers, InvalidSize
from lateno.checks import are_below, is_below, is_row, is_row_of, is_whole

MOST_KINDS = 6
MOST_STATES = 6
MOST_TOOLS = 20
MOST_ROLES = 3
MOST_PRICE = 1000000
LONGEST_NAME = 8


class Desk:
    """A desk told by tables; it never changes."""

    def __init__(self, kinds, tools, repairs):
        self.kinds = _told_kinds(kinds)
        self.tools = _told_tools(self.kinds, tools)
        self.repairs = _told_repairs(self.kinds, repairs)
        self.told = (self.kinds, self.tools, self.repairs)
        self._behinds = tuple([{before: behind for before, behind in tool[2]} for tool in self.tools])

    def behind(self, tool, befores):
        """What stands behind the tool's row with these befores, None if it has no such row."""
        return self._behinds[tool].get(tuple(befores))


def kind_number(desk, name):
    """The number of the kind with this name, -1 if there is none."""
    return number_of_name(desk.kinds, name)


def tool_number(desk, name):
    """The number of the tool with this name, -1 if there is none."""
    return number_of_name(desk.tools, name)


def is_total(desk):
    """Whether each tool has a row for all states of its roles."""
    for tool in desk.tools:
        many = 1
        for kind in tool[1]:
            many = many * desk.kinds[kind][1]
        if len(tool[2]) < many:
            return False
    return True


def need_offers(desk, value):
    """The offers in tuples, if the value is a row of repairs of the desk's kinds."""
    if not is_row(value):
        raise InvalidOffers(-1)
    told = _right_repairs(desk.kinds, value)
    if len(told) < len(value):
        raise InvalidOffers(len(told))
    return told


def with_repairs(desk, offers):
    """The desk with these repairs, too; of two for one way it keeps the cheaper one."""
    prices = {}
    for kind, x, y, price in desk.repairs + need_offers(desk, offers):
        way = (kind, x, y)
        prices[way] = min(price, prices.get(way, price))
    repairs = [way + (prices[way],) for way in sorted(prices)]
    return Desk(desk.kinds, desk.tools, repairs)


def need_tool(desk, tool):
    """Raises the error for what is no number of a tool."""
    if not is_below(tool, len(desk.tools)):
        raise InvalidSize("tool")


def is_name(value):
    """Whether a value is a name: a few small letters."""
    if not isinstance(value, str) or not 1 <= len(value) <= LONGEST_NAME:
        return False
    # islower() would let in letters beyond a to z
    return all(["a" <= letter <= "z" for letter in value])


def number_of_name(told, name):
    """The number of the first of what is told that begins with this name, -1 if none does."""
    for number, one in enumerate(told):
        if one[0] == name:
            return number
    return -1


def next_kind(kinds, value):
    """The value as a kind behind these kinds, None if it is none."""
    if not is_row_of(value, 2):
        return None
    name, many = value
    if not _is_new_name(kinds, name) or not is_whole(many) or not 1 <= many <= MOST_STATES:
        return None
    return (name, many)


def fits_as_tool(kinds, tools, name, roles):
    """Whether a tool behind these tools may have this name and these roles."""
    if not _is_new_name(tools, name) or not is_row(roles) or not 1 <= len(roles) <= MOST_ROLES:
        return False
    return are_below(roles, [len(kinds)] * len(roles))


def next_row(kinds, roles, rows, value):
    """The value as a row of a tool behind these rows of it, None if it is none."""
    if not is_row_of(value, 2):
        return None
    before, behind = value
    limits = [kinds[kind][1] for kind in roles]
    if not are_below(before, limits) or not are_below(behind, limits):
        return None
    if rows and tuple(before) <= rows[-1][0]:
        return None
    return (tuple(before), tuple(behind))


def next_repair(kinds, repairs, value):
    """The value as a repair behind these repairs, None if it is none."""
    if not is_row_of(value, 4) or not is_below(value[0], len(kinds)):
        return None
    kind, x, y, price = value
    many = kinds[kind][1]
    if not is_below(x, many) or not is_below(y, many) or x == y:
        return None
    if not is_whole(price) or not 1 <= price <= MOST_PRICE:
        return None
    if repairs and (kind, x, y) <= repairs[-1][:3]:
        return None
    return (kind, x, y, price)


def _is_new_name(told, name):
    return is_name(name) and number_of_name(told, name) == -1


def _told_kinds(kinds):
    if not is_row(kinds) or not 1 <= len(kinds) <= MOST_KINDS:
        raise InvalidDesk(("kinds", -1))
    told = []
    for at, value in enumerate(kinds):
        kind = next_kind(told, value)
        if kind is None:
            raise InvalidDesk(("kinds", at))
        told.append(kind)
    return tuple(told)


def _told_tools(kinds, tools):
    if not is_row(tools) or len(tools) > MOST_TOOLS:
        raise InvalidDesk(("tools", -1))
    told = []
    for at, value in enumerate(tools):
        if not is_row_of(value, 3) or not fits_as_tool(kinds, told, value[0], value[1]):
            raise InvalidDesk(("tools", at))
        name, roles, rows = value
        told.append((name, tuple(roles), _told_rows(kinds, roles, rows, at)))
    return tuple(told)


def _told_rows(kinds, roles, rows, tool):
    if not is_row(rows):
        raise InvalidDesk(("rows", tool, -1))
    told = []
    for at, value in enumerate(rows):
        row = next_row(kinds, roles, told, value)
        if row is None:
            raise InvalidDesk(("rows", tool, at))
        told.append(row)
    return tuple(told)


def _told_repairs(kinds, repairs):
    if not is_row(repairs):
        raise InvalidDesk(("repairs", -1))
    told = _right_repairs(kinds, repairs)
    if len(told) < len(repairs):
        raise InvalidDesk(("repairs", len(told)))
    return told


def _right_repairs(kinds, repairs):
    """The repairs in tuples, up to the first wrong one."""
    told = []
    for value in repairs:
        repair = next_repair(kinds, told, value)
        if repair is None:
            break
        told.append(repair)
    return tuple(told)
