"""Late: histories that show why a lot of guards does not serve."""

from lateno.desks import need_offers, need_tool
from lateno.errors import InvalidSize
from lateno.guards import BOUNDED, Offered, RIGHT, keeps, need_lot, need_promise, waits_of
from lateno.reach import sorts_among, what_comes
from lateno.reaching import PRICE
from lateno.tables import all_step_lines
from lateno.trees import tree_history

MOST_PROMISED = 40


def late_history(desk, offers, tool, lot, promise):
    """Some (history, at): the No to this try of the tool breaks the promise though the lot is kept; else None."""
    offers = need_offers(desk, offers)
    need_tool(desk, tool)
    lot = need_lot(desk, offers, lot)
    promise = need_promise(promise)
    if promise == BOUNDED or (promise != RIGHT and promise[1] > MOST_PROMISED):
        raise InvalidSize("promise")
    offered = Offered(desk, offers)
    if keeps(offered.of_tool(tool, lot), promise):
        return None
    comes = what_comes(desk)
    prices = offered.prices_under(lot)
    bases = {sort: prices[sort] for sort in sorts_among(comes)}
    least = 1
    if promise == RIGHT:
        # only what can't be put right counts
        bases = {sort: None if bases[sort] is None else 0 for sort in bases}
    else:
        least = promise[1] + 1
    return tree_history(desk, comes, tool, _lines_without(desk, comes, waits_of(lot)), bases, least)


def _lines_without(desk, comes, waits):
    """For each sort the step lines of the tools that don't wait."""
    lines = all_step_lines(desk, comes, PRICE)
    return {sort: [line for line in lines[sort] if line[0][0] not in waits] for sort in lines}
