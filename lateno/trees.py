"""Trees: histories in which what one No leaves parts, from step to step, into as much as is wanted."""

from lateno.steps import apart_of, beginnings_with
from lateno.tables import given_of
from lateno.ways import add_first, add_step, history_behind


def tree_history(desk, comes, tool, lines, bases, least):
    """(history, at) in which the tool's try of number at counts at least so much; it must be within reach.

    Lines are step lines of all sorts, of the steps that may be played; an endless base counts as much as is wanted.
    """
    starts = [(row, apart_of(pairs)) for row, pairs in beginnings_with(desk, comes, tool)]
    layers = _layers_to(lines, bases, starts, least)
    rows = [row for row, pairs in starts if sum([layers[-1][pair] for pair in pairs]) >= least]
    things, tries, at = _history_of_tree(desk, tool, rows[0], lines, layers, least)
    return ((things, tries), at)


def _layers_to(lines, bases, starts, least):
    """For 0, 1, .. steps one behind another each sort's number, none above least, until some start has so much."""
    layer = {sort: least if bases[sort] is None else min(bases[sort], least) for sort in bases}
    layers = [layer]
    while not any([sum([layer[pair] for pair in pairs]) >= least for _, pairs in starts]):
        layer = {sort: _next_number(layer, sort, lines[sort], least) for sort in lines}
        layers.append(layer)
    return layers


def _next_number(layer, sort, told, least):
    """The number of a sort with one step more."""
    return max([layer[sort]] + [_line_number(layer, line, least) for line in told])


def _line_number(layer, line, least):
    _, gain, gives = line
    return min(least, gain + sum([layer[pair] for pair in given_of(gives)]))


def _history_of_tree(desk, tool, row, lines, layers, least):
    """(things, tries, number of the struck one): from pair to pair what is wanted is parted until it is counted."""
    wants = []
    tries = []
    members = add_first(desk, wants, tries, tool, row)
    before, behind = desk.tools[tool][2][row]
    pairs = list(zip(desk.tools[tool][1], behind, before))
    gives = [(role, pair) for role, pair in enumerate(pairs) if pair[1] != pair[2]]
    left = _parted(layers[-1], members, gives, least)
    while left:
        thing, pair, want = left.pop()
        depth = min([at for at, layer in enumerate(layers) if layer[pair] >= want])
        if depth > 0:
            ahead = layers[depth - 1]
            step, gain, gives = [line for line in lines[pair] if _line_number(ahead, line, least) >= want][0]
            members = add_step(desk, wants, tries, thing, step)
            left.extend(_parted(ahead, members, gives, want - gain))
    return history_behind(desk, wants, tries)


def _parted(layer, members, gives, want):
    """(thing, pair, its part of what is wanted) for the given pairs, as far as something is wanted of them."""
    parts = []
    for role, pair in gives:
        part = min(want, layer[pair])
        if part > 0:
            parts.append((members[role], pair, part))
            want -= part
    return parts
