"""Guards: what a No costs while some tools wait and some repairs are bought."""

from lateno.desks import need_offers, need_tool, with_repairs
from lateno.errors import InvalidLot, InvalidPromise
from lateno.lines import least_table, sorts_behind
from lateno.pairs import price_table
from lateno.reach import sorts_among, what_comes
from lateno.steps import apart_of, beginnings_with, step_played, steps_of_kind
from lateno.checks import is_below, is_row, is_row_of, is_whole

BAD = ("bad",)
GROWS = ("grows",)
RIGHT = ("right",)
BOUNDED = ("bounded",)


def all_guards(desk, offers):
    """The lot of all guards."""
    return every_guard(desk, need_offers(desk, offers))


def with_bought(desk, offers, lot):
    """The desk with what is bought in the lot."""
    offers = need_offers(desk, offers)
    lot = need_lot(desk, offers, lot)
    return with_repairs(desk, [offers[number] for number in buys_of(lot)])


def guard_table(desk, offers, lot):
    """(sort, value) for all sorts, ascending: what a No that begins with the sort alone costs under the lot."""
    offers = need_offers(desk, offers)
    lot = need_lot(desk, offers, lot)
    told = Offered(desk, offers).of_sorts(lot)
    return tuple([(sort, told[sort]) for sort in sorted(told)])


def value_of(desk, offers, tool, lot):
    """What a No to a try of the tool costs under the lot, at worst."""
    offers = need_offers(desk, offers)
    need_tool(desk, tool)
    lot = need_lot(desk, offers, lot)
    return Offered(desk, offers).of_tool(tool, lot)


def is_kept(value, promise):
    """Whether any value is a value of a No, and keeps the promise."""
    return keeps(value, need_promise(promise))


def serves(desk, offers, tool, lot, promise):
    """Whether the tool's value under the lot keeps the promise."""
    offers = need_offers(desk, offers)
    need_tool(desk, tool)
    lot = need_lot(desk, offers, lot)
    promise = need_promise(promise)
    return keeps(Offered(desk, offers).of_tool(tool, lot), promise)


def value_rank(value):
    """What values are ordered by, the better ones first."""
    if len(value) == 2:
        return (0, value[1])
    return (1, 0) if value == GROWS else (2, 0)


def right_value(value):
    """The value of a No in a tuple, None if it is none."""
    if not is_row(value):
        return None
    told = tuple(value)
    return told if told == BAD or told == GROWS or _is_most(told) else None


def need_lot(desk, offers, value):
    """The lot of guards in tuples, if the value is one."""
    if not is_row(value):
        raise InvalidLot(-1)
    told = []
    for at, one in enumerate(value):
        if not _is_guard(desk, offers, one) or (told and tuple(one) <= told[-1]):
            raise InvalidLot(at)
        told.append(tuple(one))
    return tuple(told)


def need_promise(value):
    """The promise in a tuple, if the value is one."""
    if not is_row(value):
        raise InvalidPromise(-1)
    told = tuple(value)
    if told == RIGHT or told == BOUNDED or _is_most(told):
        return told
    raise InvalidPromise(-1)


def keeps(value, promise):
    """As is_kept, of a promise in a tuple."""
    if not isinstance(value, tuple):
        return False
    if value == GROWS:
        return promise == RIGHT
    return _is_most(value) and (len(promise) == 1 or value[1] <= promise[1])


def _is_guard(desk, offers, value):
    if not is_row_of(value, 2):
        return False
    word, number = value
    if word == "buy":
        return is_below(number, len(offers))
    return word == "wait" and is_below(number, len(desk.tools))


def _is_most(value):
    return len(value) == 2 and value[0] == "most" and is_whole(value[1]) and value[1] >= 0


class Offered:
    """A desk with offers; it keeps what is asked again and again of its values under lots."""

    def __init__(self, desk, offers):
        self._desk = desk
        self._offers = offers
        # what waits only waits behind the try: ahead of it all tools may have brought things
        self._comes = what_comes(desk)
        self._given = given_by_tools(desk, self._comes, sorts_among(self._comes))
        self._prices = {}

    def of_sorts(self, lot):
        """For each sort its value under the lot."""
        prices = self.prices_under(lot)
        waits = waits_of(lot)
        bases = {sort: value_of_price(prices[sort]) for sort in self._given}
        return values_of_sorts(bases, lines_without(self._given, waits))

    def prices_under(self, lot):
        """The price table of the desk with what is bought in the lot."""
        buys = buys_of(lot)
        if buys not in self._prices:
            self._prices[buys] = price_table(with_repairs(self._desk, [self._offers[number] for number in buys]))
        return self._prices[buys]

    def of_tool(self, tool, lot):
        """What a No to a try of the tool costs under the lot, at worst."""
        told = self.of_sorts(lot)
        begun = beginnings_with(self._desk, self._comes, tool)
        rows = [[told[pair] for pair in apart_of(pairs)] for _, pairs in begun]
        if any([BAD in row for row in rows]):
            return BAD
        if any([GROWS in row for row in rows]):
            return GROWS
        return ("most", max([sum([value[1] for value in row]) for row in rows], default=0))


def buys_of(lot):
    """The numbers of the offers that are bought in a lot."""
    return tuple([number for word, number in lot if word == "buy"])


def waits_of(lot):
    """The tools that wait in a lot."""
    return tuple([number for word, number in lot if word == "wait"])


def every_guard(desk, offers):
    """The lot of all guards, of offers in tuples."""
    buys = [("buy", number) for number in range(len(offers))]
    return tuple(buys + [("wait", tool) for tool in range(len(desk.tools))])


def values_of_sorts(bases, lines):
    """For each sort its value, by the values that sorts begin with and the lines of what they give."""
    told = least_table({sort: bases[sort][1] if len(bases[sort]) == 2 else None for sort in bases}, lines)
    found = {}
    for sort in lines:
        if any([bases[other] == BAD for other in sorts_behind(lines, sort)]):
            found[sort] = BAD
        else:
            found[sort] = GROWS if told[sort] is None else ("most", told[sort])
    return found


def value_of_price(price):
    """The value that tells a least price; None is one of a bad pair."""
    return BAD if price is None else ("most", price)


def given_lines(desk, comes, all_sorts, waits):
    """For each of these sorts what its steps by tools that don't wait give, each once, as lines without gain."""
    return lines_without(given_by_tools(desk, comes, all_sorts), waits)


def given_by_tools(desk, comes, all_sorts):
    """For each of these sorts the (tool, what a step by it gives) of all steps, each once."""
    found = {}
    for sort in all_sorts:
        given = {}
        for step in steps_of_kind(desk, comes, sort[0]):
            given[(step[0], apart_of(step_played(desk, sort, step)[2]))] = True
        found[sort] = list(given)
    return found


def lines_without(given, waits):
    """For each sort the lines of the tools that don't wait, each once, of what is given by tools."""
    lines = {}
    for sort in given:
        told = {one: True for tool, one in given[sort] if tool not in waits}
        lines[sort] = [(0, one) for one in sorted(told)]
    return lines
