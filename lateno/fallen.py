"""Fallen: how many deeds fall by one No, and papers for it."""

from lateno.flows import flows_by_first, led_from
from lateno.forward import come_from
from lateno.nets import moves_behind, need_net
from lateno.plans import heap_told, no_plan, turned
from lateno.checks import is_just, is_number

STRUCK = (0,)


def sorts_that_fall(desk, tool):
    """The sorts of which, alone, some row of deeds comes to one that falls; ascending."""
    return tuple(Falls(desk, tool).sorts)


def most_fallen(desk, tool):
    """The greatest number of deeds that fall by one No to a deed of the tool, None if there is no greatest."""
    falls = Falls(desk, tool)
    numbers = _numbers_of_all(falls)
    return None if numbers is None else max([numbers[heap] for heap in falls.starts])


def fallen_paper(desk, tool):
    """(heap, how many deeds fall behind it at most) for all heaps that come, None if there is no greatest number."""
    numbers = _numbers_of_all(Falls(desk, tool))
    return None if numbers is None else tuple(sorted(numbers.items()))


def fallen_holds(desk, tool, most, value):
    """Whether any value is a paper that at most so many deeds fall."""
    falls = Falls(desk, tool)
    told = _told_numbers(falls, value)
    if told is None:
        return False
    if not all([heap in told and told[heap] <= most for heap in falls.starts]):
        return False
    for heap in told:
        for behind, more in falls.steps(heap):
            if behind not in told or told[behind] + more > told[heap]:
                return False
    return True


class Falls:
    """The net of one No, with only such sorts kept as make some deed fall."""

    def __init__(self, desk, tool):
        plan, comes = need_net(desk, no_plan(tool))
        deeds = {}
        for one, rows, strike in moves_behind(desk, plan, comes, STRUCK):
            roles = desk.tools[one][1]
            stands, behind = turned(desk, plan, one, rows, strike)
            # the number of deeds that fall by the move itself
            deeds[(heap_told(roles, rows), heap_told(roles, behind), 0 if stands[1] else 1)] = True
        self.sorts = _falling_sorts(deeds)
        starts = {}
        for one, rows, strike in moves_behind(desk, plan, comes, ()):
            behind = turned(desk, plan, one, rows, strike)[1]
            starts[self._kept(heap_told(desk.tools[one][1], behind))] = True
        self.starts = list(starts)
        flows = {}
        for takes, gives, more in deeds:
            if self._kept(takes) == takes:
                flows[(STRUCK, takes, self._kept(gives), more)] = True
        self.by_first = flows_by_first({STRUCK: list(flows)})

    def steps(self, heap):
        """(heap behind, how many deeds fall) of the moves that can be done at a heap."""
        return [(behind, more) for (_, behind), more in led_from(self.by_first, (STRUCK, heap))]

    def _kept(self, heap):
        return tuple([sort for sort in heap if sort in self.sorts])


def _falling_sorts(deeds):
    """The sorts that, alone, come to a deed that falls, ascending."""
    found = {}
    grown = True
    while grown:
        grown = False
        for takes, gives, more in deeds:
            if len(takes) == 1 and takes[0] not in found and (more > 0 or any([sort in found for sort in gives])):
                found[takes[0]] = True
                grown = True
    return sorted(found)


def _numbers_of_all(falls):
    """For each heap that comes how many deeds fall behind it at most, None if there is no greatest number."""
    links, end = come_from(falls.by_first, [(STRUCK, heap) for heap in falls.starts], "heaps")
    if end is not None:
        return None
    aheads = {heap: [] for _, heap in links}
    for heap in list(aheads):
        for behind, more in falls.steps(heap):
            aheads[behind].append((heap, more))
    numbers = {heap: 0 for heap in aheads}
    reaching = list(aheads)
    many = 0
    while reaching:
        # these come to one fall more than the told number
        further = _further(aheads, reaching)
        if len(further) == len(reaching):
            return None
        many += 1
        for heap in further:
            numbers[heap] = many
        reaching = further
    return numbers


def _further(aheads, reaching):
    """The heaps that lead to a fall behind which one of the reaching ones stands."""
    found = {heap: True for behind in reaching for heap, more in aheads[behind] if more > 0}
    left = list(found)
    while left:
        behind = left.pop()
        for heap, _ in aheads[behind]:
            if heap not in found:
                found[heap] = True
                left.append(heap)
    return list(found)


def _told_numbers(falls, value):
    """For each heap the number that any value tells, None if it is no tuple of such."""
    if not isinstance(value, tuple):
        return None
    told = {}
    for row in value:
        if not isinstance(row, tuple) or len(row) != 2 or not is_number(row[1]):
            return None
        if not _is_heap(falls, row[0]) or row[0] in told:
            return None
        told[row[0]] = row[1]
    return told


def _is_heap(falls, value):
    """Whether any value is a heap of sorts that fall, in tuples."""
    if not isinstance(value, tuple):
        return False
    if not all([any([is_just(sort, other) for other in falls.sorts]) for sort in value]):
        return False
    return all([one <= other for one, other in zip(value, value[1:])])
