"""Counts: what a told history with struck tries counts."""

from lateno.pairs import price_table, world_price
from lateno.tables import need_number
from lateno.twins import both, need_struck, twin_behind, unlike_things
from lateno.worlds import need_history, world_behind


def counted(desk, history, struck, number):
    """What a history with a lot of struck tries counts, None if it can't be put right."""
    history = need_history(desk, history)
    struck = need_struck(history, struck)
    number = need_number(desk, number)
    if number[0] == "touched":
        return _touched(desk, history, struck, number[1])
    if number[0] == "otherwise":
        told = list(zip(history[1], both(desk, history, struck)))
        return len([one for one, (here, there, _, _) in told
                    if there is not None and here != there and one[0] in number[1]])
    world = world_behind(desk, history)
    twin = twin_behind(desk, history, struck)
    if number[0] == "price":
        return world_price(price_table(desk), history[0], world, twin)
    return len([thing for thing, _, _ in unlike_things(world, twin) if history[0][thing] in number[1]])


def _touched(desk, history, struck, kinds):
    """How many things of these kinds first come apart by a try that isn't struck."""
    ever = {}
    for number, (_, _, world, twin) in enumerate(both(desk, history, struck)):
        for thing, _, _ in unlike_things(world, twin):
            ever.setdefault(thing, number)
    return len([thing for thing in ever if ever[thing] not in struck and history[0][thing] in kinds])
