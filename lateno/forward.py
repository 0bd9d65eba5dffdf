"""Forward: the standings that come from the first one, and the first ring among them."""

from lateno.errors import InvalidSize
from lateno.flows import all_flows, flows_by_first, led_from, lies_within
from lateno.nets import FIRST

# (moves, how many standings may come by rows of at most so many of them)
LIMITS = ((10, 400), (50, 2000))


def all_that_come(desk, plan, comes):
    """As come_from, from the first standing of a plan's net."""
    return come_from(flows_by_first(all_flows(desk, plan, comes)), [FIRST], "standings")


def come_from(by_first, starts, word):
    """(for each standing that comes (the one ahead, the move), None for a start), and a ring's end, if one is met).

    The ring's end is a standing that holds one ahead of it on its way and is unlike: then endlessly many come, and
    what is told of the others is only what was met so far. The word tells what are too many.
    """
    links = {start: None for start in starts}
    layer = list(links)
    moves = 0
    while layer:
        moves += 1
        found = []
        for standing in layer:
            for behind, move in led_from(by_first, standing):
                if behind not in links:
                    links[behind] = (standing, move)
                    if held_ahead(links, behind) is not None:
                        return (links, behind)
                    found.append(behind)
                    _need_size(moves, len(links), word)
        layer = found
    return (links, None)


def held_ahead(links, standing):
    """A standing ahead on the way to this one, with the same strikes, whose heap lies within this one's; else None."""
    done, heap = standing
    link = links[standing]
    while link is not None and link[0][0] == done:
        ahead = link[0]
        if lies_within(ahead[1], heap):
            return ahead
        link = links[ahead]
    return None


def _need_size(moves, many, word):
    for most_moves, most in LIMITS:
        if moves <= most_moves and many > most:
            raise InvalidSize(word)
