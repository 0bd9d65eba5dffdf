"""Lots among lots: the least ones, and the least that meet all of them."""


def least_of(lots):
    """Those of these lots within which no other one lies, each once, ascending."""
    found = []
    # a lot that lies within another one is shorter
    for lot in sorted({lot: True for lot in lots}, key=len):
        if not any([lies_in(other, lot) for other in found]):
            found.append(lot)
    return tuple(sorted(found))


def least_crossings(lots):
    """The least lots that have something in common with each of these, ascending."""
    found = ((),)
    for lot in lots:
        met = []
        for crossing in found:
            if meets(crossing, lot):
                met.append(crossing)
            else:
                met.extend([with_one(crossing, one) for one in lot])
        found = least_of(met)
    return found


def lies_in(lot, other):
    """Whether the other lot has all that this one has."""
    return all([one in other for one in lot])


def meets(lot, other):
    """Whether two lots have something in common."""
    return any([one in other for one in lot])


def with_one(lot, one):
    """The lot with one thing put in, if it isn't there."""
    return lot if one in lot else tuple(sorted(lot + (one,)))


def others_of(row, lot):
    """What of a row isn't in the lot, in the row's order."""
    return tuple([one for one in row if one not in lot])
