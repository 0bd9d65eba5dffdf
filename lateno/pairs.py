"""Pairs of states: what it costs to put one thing right."""

from lateno.endless import total_of
from lateno.errors import InvalidSize
from lateno.checks import is_below


def least_price(desk, kind, x, y):
    """The least price of a row of repairs from x to y, None if the pair is bad."""
    _need_pair(desk, kind, x, y)
    found = _cheapest(desk, kind, x)[y]
    return None if found is None else found[0]


def repair_row(desk, kind, x, y):
    """Some numbers of repairs that lead from x to y at the least price, None if the pair is bad."""
    _need_pair(desk, kind, x, y)
    found = _cheapest(desk, kind, x)[y]
    return None if found is None else found[1]


def repair_price(desk, kind, x, y, value):
    """The price of the value, if it is a tuple of numbers of repairs that lead from x to y, else None."""
    _need_pair(desk, kind, x, y)
    if not isinstance(value, tuple):
        return None
    state = x
    total = 0
    for number in value:
        if not is_below(number, len(desk.repairs)) or desk.repairs[number][:2] != (kind, state):
            return None
        state = desk.repairs[number][2]
        total += desk.repairs[number][3]
    return total if state == y else None


def price_table(desk):
    """For each (kind, x, y) the least price, None if the pair is bad."""
    prices = {}
    for kind, (_, many) in enumerate(desk.kinds):
        for x in range(many):
            for y, found in enumerate(_cheapest(desk, kind, x)):
                prices[(kind, x, y)] = None if found is None else found[0]
    return prices


def world_price(prices, things, here, there):
    """The sum of least prices that lead all things from one world to the other, by a price table."""
    return total_of([prices[way] for way in zip(things, here, there)])


def _need_pair(desk, kind, x, y):
    if not is_below(kind, len(desk.kinds)):
        raise InvalidSize("kind")
    if not is_below(x, desk.kinds[kind][1]):
        raise InvalidSize("x")
    if not is_below(y, desk.kinds[kind][1]):
        raise InvalidSize("y")


def _cheapest(desk, kind, x):
    """For each state of the kind (least price from x, numbers of repairs), None where none lead."""
    many = desk.kinds[kind][1]
    found = [None] * many
    found[x] = (0, ())
    # a cheapest row meets no state twice, so it has fewer repairs than there are states
    for _ in range(many):
        for number, (other, start, end, price) in enumerate(desk.repairs):
            if other != kind or found[start] is None:
                continue
            total = found[start][0] + price
            if found[end] is None or total < found[end][0]:
                found[end] = (total, found[start][1] + (number,))
    return found
