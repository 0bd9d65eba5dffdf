"""Crossings: the least lots that meet all others; least lots that serve and least breaks, each those of the other."""

from lateno.desks import need_offers, need_tool
from lateno.errors import InvalidLot, InvalidLots
from lateno.guards import Offered, every_guard, keeps, need_lot, need_promise
from lateno.lots import least_crossings, lies_in, others_of
from lateno.checks import all_lots, is_just, is_number, is_row


def crossings_of(lots):
    """All least lots of guards that have one in common with each of these, ascending."""
    return least_crossings(_need_lots(lots))


def least_lots(desk, offers, tool, promise):
    """All lots that serve and have no lesser one that serves within them, ascending."""
    offers = need_offers(desk, offers)
    need_tool(desk, tool)
    return serving_lots(desk, offers, tool, need_promise(promise))


def least_breaks(desk, offers, tool, promise):
    """All breaks that have no lesser break within them, ascending."""
    offers = need_offers(desk, offers)
    need_tool(desk, tool)
    # a lot breaks exactly if it meets all that serve
    return least_crossings(serving_lots(desk, offers, tool, need_promise(promise)))


def lists_hold(desk, offers, tool, promise, lots, breaks):
    """Whether any two values are lots that serve and breaks, each just the crossings of the other."""
    offers = need_offers(desk, offers)
    need_tool(desk, tool)
    promise = need_promise(promise)
    if not _are_lots(desk, offers, lots) or not _are_lots(desk, offers, breaks):
        return False
    if least_crossings(lots) != breaks or least_crossings(breaks) != lots:
        return False
    offered = Offered(desk, offers)
    guards = every_guard(desk, offers)
    if not all([keeps(offered.of_tool(tool, lot), promise) for lot in lots]):
        return False
    return not any([keeps(offered.of_tool(tool, others_of(guards, lot)), promise) for lot in breaks])


def serving_lots(desk, offers, tool, promise):
    """As least_lots, of offers and a promise in tuples."""
    offered = Offered(desk, offers)
    found = []
    # shorter lots first, as nothing within a lot is to serve
    for lot in sorted(all_lots(every_guard(desk, offers)), key=len):
        if not any([lies_in(other, lot) for other in found]) and keeps(offered.of_tool(tool, lot), promise):
            found.append(lot)
    return tuple(sorted(found))


def _need_lots(value):
    """The lots in tuples, if the value is a sequence of lots of any guards."""
    if not is_row(value):
        raise InvalidLots(-1)
    told = []
    for at, lot in enumerate(value):
        right = _right_lot(lot)
        if right is None:
            raise InvalidLots(at)
        told.append(right)
    return told


def _right_lot(value):
    """The value as an ascending tuple of unlike guards, None if it is none."""
    if not is_row(value) or not all([_is_any_guard(one) for one in value]):
        return None
    told = tuple([tuple(one) for one in value])
    return told if all([one < other for one, other in zip(told, told[1:])]) else None


def _is_any_guard(value):
    """Whether a value is a pair or a triple of a string and numbers."""
    if not is_row(value) or len(value) not in (2, 3) or not isinstance(value[0], str):
        return False
    return all([is_number(one) for one in value[1:]])


def _are_lots(desk, offers, value):
    """Whether any value is a tuple of lots of the desk's guards, in tuples."""
    if not isinstance(value, tuple):
        return False
    for lot in value:
        try:
            told = need_lot(desk, offers, lot)
        except InvalidLot:
            return False
        if not is_just(lot, told):
            return False
    return True
