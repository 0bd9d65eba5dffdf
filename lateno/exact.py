"""Exact: tables with papers that they are the least ones."""

from lateno.reach import sorts_among, what_comes
from lateno.reaching import Rings, is_round
from lateno.steps import right_step
from lateno.lines import least_table
from lateno.tables import bases_of, given_of, lines_of, need_number, numbers_hold, numbers_told, step_line
from lateno.checks import is_just, is_number


def exact(desk, number):
    """(sort, its number in the least table, a reason, a rank) for all sorts, ascending."""
    number = need_number(desk, number)
    rings = Rings(desk, what_comes(desk), number)
    told = least_table(rings.bases, lines_of(rings.lines))
    found = {}
    for sort in told:
        if told[sort] == rings.bases[sort]:
            found[sort] = (("base",), 0)
        elif told[sort] is None:
            beside = rings.round_from(sort)
            if beside is not None:
                found[sort] = (("ring",) + beside, 0)
    for rank in range(1, len(told) + 1):
        ahead = {sort: found[sort] for sort in found}
        for sort in told:
            reason = None if sort in ahead else _reason_by(rings.lines[sort], told, ahead, told[sort])
            if reason is not None:
                found[sort] = (reason, rank)
    return tuple([(sort, told[sort]) + found[sort] for sort in sorted(told)])


def exact_holds(desk, number, value):
    """Whether any value is a table that holds with a reason for each sort that it is no greater than it must be."""
    number = need_number(desk, number)
    comes = what_comes(desk)
    told = numbers_told(sorts_among(comes), value, 4)
    if told is None or not all([is_number(row[3]) for row in value]) or not numbers_hold(desk, comes, number, told):
        return False
    ranks = {row[0]: row[3] for row in value}
    bases = bases_of(desk, comes, number)
    for sort, _, reason, _ in value:
        if not isinstance(reason, tuple) or not reason:
            return False
        if is_just(reason, ("base",)):
            if told[sort] != bases[sort]:
                return False
        elif not _reason_holds(desk, comes, number, told, ranks, sort, reason):
            return False
    return True


def _reason_by(step_lines, told, ahead, wanted):
    """A reason by a step that gives only sorts, or for an endless number one, that have reasons already; else None."""
    for step, gain, gives in step_lines:
        if wanted is None:
            for role, pair in gives:
                if told[pair] is None and pair in ahead:
                    return ("on", step, role)
        elif all([pair in ahead for pair in given_of(gives)]):
            if gain + sum([told[pair] for pair in given_of(gives)]) == wanted:
                return ("step", step)
    return None


def _reason_holds(desk, comes, number, told, ranks, sort, reason):
    """Whether a tuple is a reason other than the base."""
    word = reason[0]
    if word == "ring" and len(reason) == 3:
        return told[sort] is None and is_round(desk, comes, number, sort, reason[1:])
    if not ((word == "step" and len(reason) == 2) or (word == "on" and len(reason) == 3)):
        return False
    step = right_step(desk, comes, sort[0], reason[1])
    if step is None or not is_just(reason[1], step):
        return False
    _, gain, gives = step_line(desk, number, sort, step)
    if word == "on":
        pairs = [pair for role, pair in gives if is_just(reason[2], role)]
        return told[sort] is None and pairs != [] and _is_ahead(told, ranks, sort, pairs[0], True)
    if told[sort] is None or not all([_is_ahead(told, ranks, sort, pair, False) for pair in given_of(gives)]):
        return False
    return told[sort] == gain + sum([told[pair] for pair in given_of(gives)])


def _is_ahead(told, ranks, sort, other, is_endless):
    """Whether another sort has a lesser rank, and a number that is endless or not, as told."""
    return ranks[other] < ranks[sort] and (told[other] is None) == is_endless
