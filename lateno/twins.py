"""Twins: what would be without struck tries, and what is apart from it."""

from lateno.errors import InvalidIndex, InvalidStruck
from lateno.checks import is_below, is_row, rising_until
from lateno.worlds import first_world, need_history, tried, world_behind


def need_struck(history, value):
    """The lot of struck tries in a tuple, if the value is one."""
    if not is_row(value):
        raise InvalidStruck(-1)
    at = rising_until(value, len(history[1]))
    if at < len(value):
        raise InvalidStruck(at)
    return tuple(value)


def less(desk, history, struck):
    """The history without the struck tries."""
    history = need_history(desk, history)
    return _without(history, need_struck(history, struck))


def twin_behind(desk, history, struck):
    """The last world of the history without the struck tries."""
    return world_behind(desk, less(desk, history, struck))


def both(desk, history, struck):
    """For each try (done here, done in the twin or None if struck, world behind, twin behind)."""
    history = need_history(desk, history)
    struck = need_struck(history, struck)
    world = twin = first_world(history[0])
    found = []
    for number, one in enumerate(history[1]):
        world, here = tried(desk, world, one)
        there = None
        if number not in struck:
            twin, there = tried(desk, twin, one)
        found.append((here, there, world, twin))
    return tuple(found)


def unlike_things(world, twin):
    """(thing, state in the first, state in the second) where these are unlike."""
    return tuple([(thing, x, y) for thing, (x, y) in enumerate(zip(world, twin)) if x != y])


def apart(desk, history, struck):
    """What is apart at the end: the unlike things of the last worlds."""
    twin = twin_behind(desk, history, struck)
    return unlike_things(world_behind(desk, history), twin)


def otherwise(desk, history, struck):
    """The numbers of the tries that aren't struck and are done in one world, refused in the other."""
    told = both(desk, history, struck)
    return tuple([number for number, (here, there, _, _) in enumerate(told) if there is not None and here != there])


def trail(desk, history, number):
    """(number, what is apart behind it) of one struck try and of each later one that touches what is apart."""
    history = need_history(desk, history)
    if not is_below(number, len(history[1])):
        raise InvalidIndex(-1)
    told = [unlike_things(world, twin) for _, _, world, twin in both(desk, history, (number,))]
    found = [(number, told[number])]
    for later in range(number + 1, len(told)):
        ahead = [thing for thing, _, _ in told[later - 1]]
        if any([member in ahead for member in history[1][later][1]]):
            found.append((later, told[later]))
    return tuple(found)


def lot_worlds(desk, history, waiting):
    """For each lot of the waiting tries the last world without it, at the sum of its places' bits."""
    history = need_history(desk, history)
    waiting = need_struck(history, waiting)
    worlds = []
    for bits in range(1 << len(waiting)):
        struck = [number for place, number in enumerate(waiting) if bits & (1 << place)]
        worlds.append(world_behind(desk, _without(history, struck)))
    return tuple(worlds)


def _without(history, struck):
    things, tries = history
    return (things, tuple([one for number, one in enumerate(tries) if number not in struck]))
