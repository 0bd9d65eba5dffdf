"""Guards: what a No costs while some tools wait and some repairs are bought."""

from lateno.desks import need_offers, need_tool, with_repairs
from lateno.errors import InvalidLot, InvalidPromise
from lateno.lines import least_table, sorts_behind
from lateno.pairs import price_table
from lateno.reach import sorts_among, what_comes
from lateno.steps import apart_of, beginnings_with, step_played, steps_of_kind
from lateno.checks import is_below, is_row, is_row_of, is_whole

BAD = ("bad",)
GROWS = ("grows",)
RIGHT = ("right",)
BOUNDED = ("bounded",)


def all_guards(desk, offers):
    """The lot of all guards."""
    offers = need_offers(desk, offers)
    buys = [("buy", number) for number in range(len(offers))]
    return tuple(buys + [("wait", tool) for tool in range(len(desk.tools))])


def with_bought(desk, offers, lot):
    """The desk with what is bought in the lot."""
    offers = need_offers(desk, offers)
    lot = need_lot(desk, offers, lot)
    return _with_bought(desk, offers, lot)


def guard_table(desk, offers, lot):
    """(sort, value) for all sorts, ascending: what a No that begins with the sort alone costs under the lot."""
    offers = need_offers(desk, offers)
    lot = need_lot(desk, offers, lot)
    told = _values_under(desk, offers, lot)
    return tuple([(sort, told[sort]) for sort in sorted(told)])


def value_of(desk, offers, tool, lot):
    """What a No to a try of the tool costs under the lot, at worst."""
    offers = need_offers(desk, offers)
    need_tool(desk, tool)
    lot = need_lot(desk, offers, lot)
    return _value_of(desk, offers, tool, lot)


def is_kept(value, promise):
    """Whether any value is a value of a No, and keeps the promise."""
    return _keeps(value, need_promise(promise))


def serves(desk, offers, tool, lot, promise):
    """Whether the tool's value under the lot keeps the promise."""
    offers = need_offers(desk, offers)
    need_tool(desk, tool)
    lot = need_lot(desk, offers, lot)
    promise = need_promise(promise)
    return _keeps(_value_of(desk, offers, tool, lot), promise)


def value_rank(value):
    """What values are ordered by, the better ones first."""
    if len(value) == 2:
        return (0, value[1])
    return (1, 0) if value == GROWS else (2, 0)


def right_value(value):
    """The value of a No in a tuple, None if it is none."""
    if not is_row(value):
        return None
    told = tuple(value)
    return told if told == BAD or told == GROWS or _is_most(told) else None


def need_lot(desk, offers, value):
    """The lot of guards in tuples, if the value is one."""
    if not is_row(value):
        raise InvalidLot(-1)
    told = []
    for at, one in enumerate(value):
        if not _is_guard(desk, offers, one) or (told and tuple(one) <= told[-1]):
            raise InvalidLot(at)
        told.append(tuple(one))
    return tuple(told)


def need_promise(value):
    """The promise in a tuple, if the value is one."""
    if not is_row(value):
        raise InvalidPromise(-1)
    told = tuple(value)
    if told == RIGHT or told == BOUNDED or _is_most(told):
        return told
    raise InvalidPromise(-1)


def _is_guard(desk, offers, value):
    if not is_row_of(value, 2):
        return False
    word, number = value
    if word == "buy":
        return is_below(number, len(offers))
    return word == "wait" and is_below(number, len(desk.tools))


def _is_most(value):
    return len(value) == 2 and value[0] == "most" and is_whole(value[1]) and value[1] >= 0


def _keeps(value, promise):
    if not isinstance(value, tuple):
        return False
    if value == GROWS:
        return promise == RIGHT
    return _is_most(value) and (len(promise) == 1 or value[1] <= promise[1])


def _with_bought(desk, offers, lot):
    return with_repairs(desk, [offers[number] for word, number in lot if word == "buy"])


def _value_of(desk, offers, tool, lot):
    told = _values_under(desk, offers, lot)
    rows = [[told[pair] for pair in apart_of(pairs)] for _, pairs in beginnings_with(desk, what_comes(desk), tool)]
    if any([BAD in row for row in rows]):
        return BAD
    if any([GROWS in row for row in rows]):
        return GROWS
    return ("most", max([sum([value[1] for value in row]) for row in rows], default=0))


def values_of_sorts(bases, lines):
    """For each sort its value, by the values that sorts begin with and the lines of what they give."""
    told = least_table({sort: bases[sort][1] if len(bases[sort]) == 2 else None for sort in bases}, lines)
    found = {}
    for sort in lines:
        if any([bases[other] == BAD for other in sorts_behind(lines, sort)]):
            found[sort] = BAD
        else:
            found[sort] = GROWS if told[sort] is None else ("most", told[sort])
    return found


def value_of_price(price):
    """The value that tells a least price; None is one of a bad pair."""
    return BAD if price is None else ("most", price)


def given_lines(desk, comes, all_sorts, waits):
    """For each of these sorts what its steps by tools that don't wait give, each once, as lines without gain."""
    lines = {}
    for sort in all_sorts:
        given = {}
        for step in steps_of_kind(desk, comes, sort[0]):
            if step[0] not in waits:
                given[apart_of(step_played(desk, sort, step)[2])] = True
        lines[sort] = [(0, one) for one in sorted(given)]
    return lines


def _values_under(desk, offers, lot):
    """For each sort its value under the lot."""
    prices = price_table(_with_bought(desk, offers, lot))
    # what waits only waits behind the try: ahead of it all tools may have brought things
    comes = what_comes(desk)
    all_sorts = sorts_among(comes)
    waits = [number for word, number in lot if word == "wait"]
    bases = {sort: value_of_price(prices[sort]) for sort in all_sorts}
    return values_of_sorts(bases, given_lines(desk, comes, all_sorts, waits))
