"""Reaching: ways to what can't be put right, rings, and histories that count as much as one likes."""

from lateno.desks import need_tool
from lateno.errors import InvalidSize
from lateno.pairs import price_table
from lateno.reach import is_possible, what_comes
from lateno.steps import right_step
from lateno.tables import all_step_lines, bases_of, need_number, step_line, worst_of
from lateno.trees import tree_history
from lateno.ways import all_hops, first_ways, hops_behind, hops_end, way_end, way_to
from lateno.checks import is_below, is_just

PRICE = ("price",)
MOST_LEAST = 40


def is_safe(desk, tool):
    """Whether each No to a try of the tool can be put right."""
    return bad_way(desk, tool) is None


def bad_way(desk, tool):
    """Some way of the tool to a bad pair, None if there is none."""
    need_tool(desk, tool)
    comes = what_comes(desk)
    prices = price_table(desk)
    return way_to(desk, comes, tool, all_hops(desk, comes, ()), {pair: prices[pair] is None for pair in prices})


def way_holds(desk, tool, value):
    """Whether any value is a way of the tool to a bad pair."""
    need_tool(desk, tool)
    end = way_end(desk, what_comes(desk), tool, value)
    return end is not None and price_table(desk)[end] is None


def ring(desk, tool, number):
    """Some ring (way, hops, spur) of the tool, None if none is come to."""
    need_tool(desk, tool)
    rings = Rings(desk, what_comes(desk), need_number(desk, number))
    firsts = first_ways(desk, rings.comes, tool)
    behind = hops_behind(rings.hops, firsts)
    for sort in behind:
        found = rings.round_from(sort)
        if found is not None:
            start, hops = behind[sort]
            return (firsts[start] + (hops,),) + found
    return None


def ring_holds(desk, tool, number, value):
    """Whether any value is a ring of the tool."""
    need_tool(desk, tool)
    number = need_number(desk, number)
    if not isinstance(value, tuple) or len(value) != 3:
        return False
    comes = what_comes(desk)
    sort = way_end(desk, comes, tool, value[0])
    return sort is not None and is_round(desk, comes, number, sort, value[1:])


def reached(desk, tool, number, least):
    """Some (history, at): struck alone the try of this number, one of the tool, counts at least so much; else None."""
    need_tool(desk, tool)
    number = need_number(desk, number)
    need_least(least)
    comes = what_comes(desk)
    worst = worst_of(desk, tool, number)
    if not is_possible(desk, comes, tool) or (worst is not None and worst < least):
        return None
    return tree_history(desk, comes, tool, all_step_lines(desk, comes, number), bases_of(desk, comes, number), least)


def need_least(value):
    """Raises the error for what is no number up to the greatest that may be asked for."""
    if not is_below(value, MOST_LEAST + 1):
        raise InvalidSize("least")


def is_round(desk, comes, number, sort, value):
    """Whether two values are hops from a sort round to itself and what the first of them counts by."""
    hops, spur = value
    if not hops or hops_end(desk, comes, sort, hops) != sort:
        return False
    _, gain, gives = step_line(desk, number, sort, hops[0][:3])
    if spur is None:
        return gain > 0
    if not isinstance(spur, tuple) or len(spur) != 3:
        return False
    role, beside, last = spur
    pairs = [pair for other, pair in gives if is_just(role, other) and other != hops[0][3]]
    end = hops_end(desk, comes, pairs[0], beside) if pairs else None
    if end is None:
        return False
    if last is None:
        return bases_of(desk, comes, number)[end] != 0
    step = right_step(desk, comes, end[0], last)
    return step is not None and is_just(last, step) and step_line(desk, number, end, step)[1] > 0


class Rings:
    """All that is known of a desk's lines when rings are looked for; it keeps the hops behind each sort."""

    def __init__(self, desk, comes, number):
        self.comes = comes
        self.hops = all_hops(desk, comes, ())
        self.bases = bases_of(desk, comes, number)
        self.lines = all_step_lines(desk, comes, number)
        self._behind = {}

    def round_from(self, sort):
        """Some (hops, spur) from the sort round to itself of which the first hop counts, else None."""
        for step, gain, gives in self.lines[sort]:
            for on, pair in gives:
                if sort not in self.hops_from(pair):
                    continue
                hops = (step + (on,),) + self.hops_from(pair)[sort]
                if gain > 0:
                    return (hops, None)
                for role, other in gives:
                    told = None if role == on else self.counting_from(other)
                    if told is not None:
                        return (hops, (role,) + told)
        return None

    def hops_from(self, sort):
        """For each sort that this one comes to the fewest hops there."""
        if sort not in self._behind:
            behind = hops_behind(self.hops, [sort])
            self._behind[sort] = {other: behind[other][1] for other in behind}
        return self._behind[sort]

    def counting_from(self, sort):
        """(hops, last) to a sort that counts at the end, or by a step of it, None if the sort comes to none."""
        told = self.hops_from(sort)
        for other in told:
            if self.bases[other] != 0:
                return (told[other], None)
            for step, gain, _ in self.lines[other]:
                if gain > 0:
                    return (told[other], step)
        return None
