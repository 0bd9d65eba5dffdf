"""Lines of sorts: where they lead to, and the least table over them.

Lines are told as a dict: for each sort the (gain, given) of its lines, given being the sorts that a line gives.
"""

from lateno.endless import greatest_of, total_of


def sorts_behind(lines, sort):
    """All sorts that the sort comes to, itself among them."""
    found = {sort: True}
    left = [sort]
    while left:
        one = left.pop()
        for _, given in lines[one]:
            for other in given:
                if other not in found:
                    found[other] = True
                    left.append(other)
    return found


def least_table(bases, lines):
    """For each sort the least number, at least its base and each of its lines; None if it is endless."""
    ways = {sort: sorts_behind(lines, sort) for sort in lines}
    counting = counting_sorts(bases, lines, ways)
    rings = {sort: _is_on_ring(ways, counting, sort, lines[sort]) for sort in lines}
    found = {}
    for sort in lines:
        if any([rings[other] or bases[other] is None for other in ways[sort]]):
            found[sort] = None
    finite = [sort for sort in lines if sort not in found]
    for sort in finite:
        found[sort] = bases[sort]
    grown = True
    # off all rings a sort that is met again brings no more: so this ends
    while grown:
        grown = False
        for sort in finite:
            best = line_number(found, lines[sort])
            if best > found[sort]:
                found[sort] = best
                grown = True
    return found


def counting_sorts(bases, lines, ways):
    """For each sort whether its number is above 0, by all that it comes to."""
    first = {sort: bases[sort] != 0 or any([gain > 0 for gain, _ in lines[sort]]) for sort in lines}
    return {sort: any([first[other] for other in ways[sort]]) for sort in lines}


def line_number(numbers, told):
    """The greatest number that one of these lines tells, 0 if there are none."""
    return greatest_of([total_of([gain] + [numbers[other] for other in given]) for gain, given in told])


def _is_on_ring(ways, counting, sort, told):
    """Whether one of these lines counts and leads from the sort on and back to it."""
    for gain, given in told:
        for place, on in enumerate(given):
            beside = given[:place] + given[place + 1:]
            if sort in ways[on] and (gain > 0 or any([counting[other] for other in beside])):
                return True
    return False
