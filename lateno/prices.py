"""Prices of heaps, what a plan's histories cost at worst, and closed lots of standings."""

from lateno.endless import total_of
from lateno.flows import all_flows, flows_by_first, led_from
from lateno.forward import all_that_come
from lateno.nets import FIRST, heap_in_tuples, is_standing, need_net
from lateno.pairs import price_table
from lateno.walls import is_calm


def price_of(desk, plan, heap):
    """The sum of least prices, of each thing and column from its parent's state, None if one has none."""
    plan, _ = need_net(desk, plan)
    return heap_price(price_table(desk), plan, heap_in_tuples(heap))


def worst(desk, plan):
    """What histories for the plan cost at worst: ("bad",), ("grows",) or ("most", n)."""
    plan, comes = need_net(desk, plan)
    if not is_calm(desk, plan, None):
        return ("bad",)
    links, end = all_that_come(desk, plan, comes)
    if end is not None:
        return ("grows",)
    prices = price_table(desk)
    return ("most", max([heap_price(prices, plan, heap) for done, heap in links if len(done) == len(plan[0])]))


def closed_lot(desk, plan):
    """All standings that come from the first one, ascending; None if there are endlessly many."""
    plan, comes = need_net(desk, plan)
    links, end = all_that_come(desk, plan, comes)
    return tuple(sorted(links)) if end is None else None


def closed_lot_holds(desk, plan, most, value):
    """Whether any value is a tuple of standings, the first one among them, closed and nowhere dearer than told."""
    plan, comes = need_net(desk, plan)
    if not isinstance(value, tuple) or not all([is_standing(desk, plan, comes, one) for one in value]):
        return False
    told = {one: True for one in value}
    if FIRST not in told:
        return False
    prices = price_table(desk)
    by_first = flows_by_first(all_flows(desk, plan, comes))
    for done, heap in told:
        if len(done) == len(plan[0]):
            price = heap_price(prices, plan, heap)
            if price is None or price > most:
                return False
        if not all([behind in told for behind, _ in led_from(by_first, (done, heap))]):
            return False
    return True


def heap_price(prices, plan, heap):
    """As price_of, of a heap in tuples and with the least prices of all pairs."""
    return total_of([prices[(kind, row[parent], row[at])]
                     for kind, row in heap for at, (parent, _) in enumerate(plan[1], start=1)])
