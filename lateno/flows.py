"""Flows: the moves of a net by what they take and give, for searches over standings."""

from lateno.nets import moves_behind
from lateno.plans import heap_told, turned
from lateno.checks import all_lots


def all_flows(desk, plan, comes):
    """For each lot of strikes that may have come the flows there: (strikes behind, takes, gives, a move of it)."""
    return {done: _flows_at(desk, plan, comes, done) for done in all_lots(list(range(len(plan[0]))))}


def lies_within(heap, other):
    """Whether the other heap holds this one, with repeats counted."""
    at = 0
    for sort in heap:
        while at < len(other) and other[at] < sort:
            at += 1
        if at == len(other) or other[at] != sort:
            return False
        at += 1
    return True


def heap_less(heap, other):
    """What is left of a heap without what it has in common with the other one."""
    left = list(heap)
    for sort in other:
        if sort in left:
            left.remove(sort)
    return left


def flows_by_first(flows):
    """For each lot of strikes the flows there, by the first sort that they take, () for those that take nothing."""
    found = {}
    for done in flows:
        by_first = {}
        for flow in flows[done]:
            by_first.setdefault(flow[1][:1], []).append(flow)
        found[done] = by_first
    return found


def led_from(by_first, standing):
    """(standing behind, move) of the flows that can be done at a standing, told by what they take first."""
    done, heap = standing
    flows = list(by_first[done].get((), []))
    for sort in {one: True for one in heap}:
        flows.extend(by_first[done].get((sort,), []))
    found = []
    for behind, takes, gives, move in flows:
        if lies_within(takes, heap):
            found.append(((behind, tuple(sorted(heap_less(heap, takes) + list(gives)))), move))
    return found


def _flows_at(desk, plan, comes, done):
    """The flows behind these strikes, each once, by their least moves."""
    found = {}
    for move in moves_behind(desk, plan, comes, done):
        tool, rows, strike = move
        roles = desk.tools[tool][1]
        behind = done if strike == -1 else tuple(sorted(done + (strike,)))
        gives = heap_told(roles, turned(desk, plan, tool, rows, strike)[1])
        found.setdefault((behind, heap_told(roles, rows), gives), move)
    return tuple([flow + (found[flow],) for flow in found])
