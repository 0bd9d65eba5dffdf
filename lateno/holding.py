"""Ledgers: what waits and the worlds of all answers; what Nos cost, and which tries a desk that watches lets."""

from lateno.endless import endless_last, greatest_of, is_at_least, total_of
from lateno.errors import InvalidBound, InvalidHistory, InvalidIndex, InvalidLedger, InvalidLot, InvalidSize
from lateno.errors import InvalidTry
from lateno.pairs import price_table, world_price
from lateno.twins import lot_worlds, need_struck
from lateno.worlds import first_world, need_history, right_try, tried
from lateno.checks import all_lots, are_below, is_below, is_number, is_row, is_row_of, rising_until

MOST_WAITING = 6


def fresh_ledger(desk, things):
    """The ledger of things with which nothing was tried yet."""
    if not is_row(things) or not are_below(things, [len(desk.kinds)] * len(things)):
        raise InvalidHistory(-1)
    return (tuple(things), (), (first_world(things),))


def ledger_of(desk, history, waiting):
    """The ledger behind a history in which these tries wait."""
    things, tries = need_history(desk, history)
    waiting = need_struck((things, tries), waiting)
    if len(waiting) > MOST_WAITING:
        raise InvalidSize("waiting")
    return (things, tuple([tries[number] for number in waiting]), lot_worlds(desk, (things, tries), waiting))


def tried_ledger(desk, ledger, one, waits):
    """The ledger behind one try, which waits from now on or had its leave."""
    ledger = need_ledger(desk, ledger)
    one = _need_try(desk, ledger, one)
    _need_place(ledger, waits)
    return _tried_ledger(desk, ledger, one, waits)


def yes_ledger(desk, ledger, place):
    """The ledger behind a yes to the try at a place."""
    return _answered(desk, ledger, place, 0)


def no_ledger(desk, ledger, place):
    """The ledger behind a No to the try at a place."""
    return _answered(desk, ledger, place, 1)


def edge_price(desk, ledger, lot, place):
    """The least price of the No to a place behind Nos to a lot of others, None if it can't be put right."""
    ledger = need_ledger(desk, ledger)
    lot = _need_lot(ledger, lot)
    if not is_below(place, len(ledger[1])) or place in lot:
        raise InvalidIndex(-1)
    return edges_of(desk, ledger)[(bits_of(lot), place)]


def bad_edges(desk, ledger):
    """The (lot, place) of the Nos that can't be put right, ascending."""
    ledger = need_ledger(desk, ledger)
    edges = edges_of(desk, ledger)
    return tuple(sorted([(lot_of(bits), place) for bits, place in edges if edges[(bits, place)] is None]))


def bill(desk, ledger):
    """The greatest sum of prices of a row of Nos to any of what waits, None if an edge is bad."""
    ledger = need_ledger(desk, ledger)
    return bill_behind(edges_of(desk, ledger), tuple(range(len(ledger[1]))), 0)


def dearest_order(desk, ledger, lot):
    """(the greatest sum of prices of Nos to just this lot, some order that has it)."""
    ledger = need_ledger(desk, ledger)
    return _best_order(edges_of(desk, ledger), _need_lot(ledger, lot), True)


def cheapest_order(desk, ledger, lot):
    """(the least sum of prices of Nos to just this lot, some order that has it)."""
    ledger = need_ledger(desk, ledger)
    return _best_order(edges_of(desk, ledger), _need_lot(ledger, lot), False)


def lets(desk, ledger, one, waits, bound):
    """Whether the bill behind the try can be put right, within the bound."""
    ledger = ledger_asked(desk, ledger, one, waits, bound)
    edges = edges_of(desk, ledger)
    return is_within(bill_behind(edges, tuple(range(len(ledger[1]))), 0), bound)


def need_ledger(desk, value):
    """The ledger in tuples, if the value is one."""
    if not is_row_of(value, 3):
        raise InvalidLedger(-1)
    things, waiting, worlds = value
    if not is_row(things) or not are_below(things, [len(desk.kinds)] * len(things)):
        raise InvalidLedger(0)
    if not is_row(waiting) or len(waiting) > MOST_WAITING:
        raise InvalidLedger(1)
    told = [right_try(desk, things, one) for one in waiting]
    if None in told:
        raise InvalidLedger(1)
    limits = [desk.kinds[kind][1] for kind in things]
    if not is_row_of(worlds, 1 << len(waiting)) or not all([are_below(world, limits) for world in worlds]):
        raise InvalidLedger(2)
    return (tuple(things), tuple(told), tuple([tuple(world) for world in worlds]))


def ledger_asked(desk, ledger, one, waits, bound):
    """The ledger behind a try of which it is asked whether it is let."""
    ledger = need_ledger(desk, ledger)
    one = _need_try(desk, ledger, one)
    need_bound(bound)
    _need_place(ledger, waits)
    return _tried_ledger(desk, ledger, one, waits)


def need_bound(value):
    """Raises the error for what is no bound."""
    if value is not None and not is_number(value):
        raise InvalidBound(-1)


def edges_of(desk, ledger):
    """For each (bits of a lot, place) of a ledger the price of this edge."""
    things, waiting, worlds = ledger
    prices = price_table(desk)
    found = {}
    for bits, world in enumerate(worlds):
        for place in range(len(waiting)):
            if not bits & (1 << place):
                found[(bits, place)] = world_price(prices, things, world, worlds[bits | (1 << place)])
    return found


def bill_behind(edges, places, bits):
    """The greatest sum of a row of Nos to any of these places, behind Nos to the lot of these bits."""
    sums = {}
    # the lots with more places first, as a row goes on to these
    for lot in reversed(all_lots(places)):
        nos = bits_of(lot)
        free = [place for place in places if place not in lot]
        ways = [total_of([edges[(bits | nos, place)], sums[nos | (1 << place)]]) for place in free]
        sums[nos] = greatest_of(ways)
    return sums[0]


def is_within(sum_of_bill, bound):
    """Whether a bill can be put right, within the bound, None being no bound."""
    return sum_of_bill is not None and is_at_least(bound, sum_of_bill)


def bits_of(lot):
    """The number that tells a lot of places, by a bit for each."""
    return sum([1 << place for place in lot])


def lot_of(bits):
    """The lot of places that a number tells."""
    return tuple([place for place in range(bits.bit_length()) if bits & (1 << place)])


def _tried_ledger(desk, ledger, one, waits):
    things, waiting, worlds = ledger
    behind = tuple([tried(desk, world, one)[0] for world in worlds])
    if not waits:
        return (things, waiting, behind)
    # a No to the try leaves each world as it was
    return (things, waiting + (one,), behind + worlds)


def _answered(desk, ledger, place, answer):
    """The ledger behind the answer to a place, 1 for a No."""
    things, waiting, worlds = need_ledger(desk, ledger)
    if not is_below(place, len(waiting)):
        raise InvalidIndex(-1)
    left = [world for bits, world in enumerate(worlds) if (bits >> place) & 1 == answer]
    return (things, waiting[:place] + waiting[place + 1:], tuple(left))


def _best_order(edges, lot, is_dearest):
    """(the greatest or the least sum, an order of the lot that has it)."""
    best = {0: (0, ())}
    for part in all_lots(lot):
        if not part:
            continue
        found = []
        for place in part:
            ahead = bits_of(part) - (1 << place)
            total, order = best[ahead]
            found.append((total_of([total, edges[(ahead, place)]]), order + (place,)))
        best[bits_of(part)] = max(found, key=_order_key) if is_dearest else min(found, key=_order_key)
    return best[bits_of(lot)]


def _order_key(told):
    return endless_last(told[0])


def _need_try(desk, ledger, one):
    told = right_try(desk, ledger[0], one)
    if told is None:
        raise InvalidTry(-1)
    return told


def _need_place(ledger, waits):
    """Raises the error for a seventh that waits."""
    if waits and len(ledger[1]) == MOST_WAITING:
        raise InvalidSize("waiting")


def _need_lot(ledger, value):
    """The lot of places in a tuple, if the value is one."""
    if not is_row(value):
        raise InvalidLot(-1)
    at = rising_until(value, len(ledger[1]))
    if at < len(value):
        raise InvalidLot(at)
    return tuple(value)
