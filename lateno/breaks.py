"""Breaks: lots without which a promise can't be kept, with stories that show it."""

from lateno.desks import need_offers, need_tool
from lateno.guards import BAD, GROWS, Offered, RIGHT, every_guard, given_by_tools, keeps, need_lot, need_promise
from lateno.guards import waits_of
from lateno.lines import least_table
from lateno.lots import least_crossings, least_of, others_of, with_one
from lateno.reach import sorts_among, what_comes
from lateno.steps import apart_of, beginnings_with, need_sort, right_step, step_played
from lateno.ways import all_hops, first_ways, hops_behind, hops_end, way_end, way_to
from lateno.checks import is_just


def is_break(desk, offers, tool, lot, promise):
    """Whether the lot of all guards but these does not serve."""
    rest, promise = _need_rest(desk, offers, tool, lot, promise)
    return not keeps(rest.value, promise)


def break_story(desk, offers, tool, lot, promise):
    """Some story that the lot is a break, None if it is none."""
    rest, promise = _need_rest(desk, offers, tool, lot, promise)
    if keeps(rest.value, promise):
        return None
    if rest.value == BAD:
        return _way_story(rest)
    return _ring_story(rest) if rest.value == GROWS else _sum_story(rest)


def story_holds(desk, offers, tool, lot, promise, story):
    """Whether any value is a story that the lot is a break."""
    rest, promise = _need_rest(desk, offers, tool, lot, promise)
    if not isinstance(story, tuple) or len(story) < 3:
        return False
    word = story[0]
    if word == "way" and len(story) == 4:
        end = _way_end(rest, story[1:])
        return end is not None and rest.prices[end] is None
    if word == "ring" and len(story) == 5:
        return promise != RIGHT and _ring_holds(rest, story[1:4], story[4])
    if word == "sum" and len(story) == 3:
        return len(promise) == 2 and _sum_holds(rest, story[1], story[2], promise[1])
    return False


def cuts(desk, offers, sort):
    """The least lots of buys without which, all others bought, no repairs put the sort right; ascending."""
    offers = need_offers(desk, offers)
    return _cuts(desk, offers, need_sort(desk, what_comes(desk), sort))


def breaks_table(desk, offers):
    """(sort, all least breaks of ("right",) for a No that begins with it alone) for all sorts, ascending."""
    offers = need_offers(desk, offers)
    all_sorts = sorts_among(what_comes(desk))
    given = given_by_tools(desk, what_comes(desk), all_sorts)
    found = {sort: _cuts(desk, offers, sort) for sort in all_sorts}
    grown = True
    while grown:
        grown = False
        for sort in all_sorts:
            lots = list(found[sort])
            for tool, pairs in given[sort]:
                lots.extend([with_one(lot, ("wait", tool)) for pair in pairs for lot in found[pair]])
            least = least_of(lots)
            if least != found[sort]:
                found[sort] = least
                grown = True
    return tuple([(sort, found[sort]) for sort in all_sorts])


class Rest:
    """A desk and a tool under all guards but those of a lot."""

    def __init__(self, desk, offers, tool, lot):
        guards = others_of(every_guard(desk, offers), lot)
        offered = Offered(desk, offers)
        self.desk = desk
        self.tool = tool
        self.comes = what_comes(desk)
        self.waits = waits_of(guards)
        self.prices = offered.prices_under(guards)
        self.value = offered.of_tool(tool, guards)


def _need_rest(desk, offers, tool, lot, promise):
    """(the rest of a lot, the promise in a tuple)."""
    offers = need_offers(desk, offers)
    need_tool(desk, tool)
    lot = need_lot(desk, offers, lot)
    promise = need_promise(promise)
    return (Rest(desk, offers, tool, lot), promise)


def _way_story(rest):
    """A story of a way to a sort that no repairs put right."""
    is_bad = {pair: rest.prices[pair] is None for pair in rest.prices}
    hops = all_hops(rest.desk, rest.comes, rest.waits)
    return ("way",) + way_to(rest.desk, rest.comes, rest.tool, hops, is_bad)


def _ring_story(rest):
    """A story of a way to a sort with a round on which something is given beside."""
    hops = all_hops(rest.desk, rest.comes, rest.waits)
    firsts = first_ways(rest.desk, rest.comes, rest.tool)
    behind = hops_behind(hops, firsts)
    for sort in behind:
        turn = _growing_turn(hops, sort)
        if turn is not None:
            start, told = behind[sort]
            return ("ring",) + firsts[start] + (told, turn)
    return None


def _growing_turn(hops, sort):
    """Hops from a sort round to itself, the first of a step that gives two pairs or more; None if there are none."""
    steps_with = [hop[:3] for hop, _ in hops[sort]]
    for hop, pair in hops[sort]:
        if steps_with.count(hop[:3]) > 1:
            back = hops_behind(hops, [pair])
            if sort in back:
                return (hop,) + back[sort][1]
    return None


def _sum_story(rest):
    """A story of a choice for each sort by which the dearest row of the tool sums up to its number."""
    gives = {}
    hops = all_hops(rest.desk, rest.comes, rest.waits)
    for sort in hops:
        told = {}
        for hop, pair in hops[sort]:
            told.setdefault(hop[:3], []).append(pair)
        gives[sort] = told
    lines = {sort: [(0, tuple(gives[sort][step])) for step in gives[sort]] for sort in gives}
    numbers = least_table({sort: rest.prices[sort] for sort in gives}, lines)
    choices = _all_choices(rest.prices, gives, numbers)
    rows = []
    for row, pairs in beginnings_with(rest.desk, rest.comes, rest.tool):
        begun = apart_of(pairs)
        if all([numbers[pair] is not None for pair in begun]):
            rows.append((sum([numbers[pair] for pair in begun]), row, begun))
    _, row, begun = max(rows)
    return ("sum", row, tuple([(sort, choices[sort]) for sort in sorted(_chosen_from(choices, gives, begun))]))


def _all_choices(prices, gives, numbers):
    """For each sort with a number None, if it is its least price, or a step by which, without a round, it comes."""
    found = {sort: None for sort in numbers if numbers[sort] is not None and numbers[sort] == prices[sort]}
    grown = True
    while grown:
        grown = False
        for sort in numbers:
            if sort in found or numbers[sort] is None:
                continue
            for step in gives[sort]:
                given = gives[sort][step]
                if all([pair in found for pair in given]) and sum([numbers[pair] for pair in given]) == numbers[sort]:
                    found[sort] = step
                    grown = True
                    break
    return found


def _chosen_from(choices, gives, begun):
    """All sorts that come of these by the chosen steps."""
    found = {}
    left = list(begun)
    while left:
        sort = left.pop()
        if sort not in found:
            found[sort] = True
            if choices[sort] is not None:
                left.extend(gives[sort][choices[sort]])
    return found


def _are_tried(rest, hops):
    """Whether all these hops are by tools that don't wait."""
    return not any([hop[0] in rest.waits for hop in hops])


def _way_end(rest, value):
    """The sort that any value leads to, if it is a way of the tool by tools that don't wait, else None."""
    end = way_end(rest.desk, rest.comes, rest.tool, value)
    return end if end is not None and _are_tried(rest, value[2]) else None


def _ring_holds(rest, way, turn):
    """Whether any two values are a way, and hops round from its end on which two pairs or more are given."""
    sort = _way_end(rest, way)
    if sort is None or hops_end(rest.desk, rest.comes, sort, turn) != sort or not _are_tried(rest, turn):
        return False
    for hop in turn:
        pairs = step_played(rest.desk, sort, hop[:3])[2]
        if len(apart_of(pairs)) > 1:
            return True
        sort = pairs[hop[3]]
    return False


def _sum_holds(rest, row, choices, most):
    """Whether any two values are a row and choices by which what the row leaves sums up to more than told."""
    rows = beginnings_with(rest.desk, rest.comes, rest.tool)
    begun = [apart_of(pairs) for number, pairs in rows if is_just(row, number)]
    given = _told_choices(rest, choices)
    if not begun or given is None or not all([pair in given for pair in begun[0]]):
        return False
    numbers = {sort: rest.prices[sort] for sort in given if given[sort] is None}
    if None in list(numbers.values()):
        return False
    grown = True
    while grown:
        grown = False
        for sort in given:
            # what leads round to itself, or to what has no choice, never gets a number
            if sort not in numbers and all([pair in numbers for pair in given[sort]]):
                numbers[sort] = sum([numbers[pair] for pair in given[sort]])
                grown = True
    return len(numbers) == len(given) and sum([numbers[pair] for pair in begun[0]]) > most


def _told_choices(rest, value):
    """For each sort what the step chosen for it gives, None if none is; None if any value is no choices."""
    if not isinstance(value, tuple):
        return None
    all_sorts = sorts_among(rest.comes)
    found = {}
    ahead = None
    for one in value:
        if not isinstance(one, tuple) or len(one) != 2 or not any([is_just(one[0], sort) for sort in all_sorts]):
            return None
        sort, step = one
        if ahead is not None and sort <= ahead:
            return None
        ahead = sort
        found[sort] = None
        if step is not None:
            told = right_step(rest.desk, rest.comes, sort[0], step)
            if told is None or not is_just(step, told) or told[0] in rest.waits:
                return None
            found[sort] = apart_of(step_played(rest.desk, sort, told)[2])
    return found


def _cuts(desk, offers, sort):
    """As cuts, of offers and a sort in tuples."""
    kind, x, y = sort
    free = [repair[1:3] for repair in desk.repairs if repair[0] == kind]
    buys = {offer[1:3]: ("buy", number) for number, offer in enumerate(offers) if offer[0] == kind}
    needed = []
    # each row of repairs without a state twice, and the offers that it needs
    left = [((x,), ())]
    while left:
        path, lot = left.pop()
        if path[-1] == y:
            needed.append(tuple(sorted(lot)))
            continue
        for state in range(desk.kinds[kind][1]):
            hop = (path[-1], state)
            if state not in path and hop in free:
                left.append((path + (state,), lot))
            elif state not in path and hop in buys:
                left.append((path + (state,), lot + (buys[hop],)))
    return least_crossings(least_of(needed))
