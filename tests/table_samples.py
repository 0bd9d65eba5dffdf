"""What is counted, told again: of histories, and of tables over sorts; shared by the tests of chapter 4."""

import itertools

from lateno.desks import Desk
from samples import random_desk, random_repairs

PRICE = ("price",)
# [22]: the mail desk, with a repair from out to signed bought at 2, and with copy of two mails in the place of send
BOUGHT = Desk((("mail", 3),), (("sign", (0,), (((0,), (1,)),)), ("send", (0,), (((1,), (2,)),))),
              ((0, 1, 0, 1), (0, 2, 0, 3), (0, 2, 1, 2)))
COPIED = Desk((("mail", 3),), (("sign", (0,), (((0,), (1,)),)), ("copy", (0, 0), (((1, 0), (1, 1)),))),
              ((0, 1, 0, 1), (0, 2, 0, 3)))


def price_again(desk, kind, x, y):
    """The least price by all rows of repairs without a state twice; None for none."""
    best = None
    left = [(x, 0, (x,))]
    while left:
        state, total, seen = left.pop()
        if state == y and (best is None or total < best):
            best = total
        for other, start, end, price in desk.repairs:
            if other == kind and start == state and end not in seen:
                left.append((end, total + price, seen + (end,)))
    return best


def comes_again(desk):
    """For each kind the set of states that come."""
    told = [{0} for _ in desk.kinds]
    for _ in range(40):
        for _, roles, rows in desk.tools:
            for before, behind in rows:
                if all(state in told[kind] for kind, state in zip(roles, before)):
                    for kind, state in zip(roles, behind):
                        told[kind].add(state)
    return told


def play(desk, tool, states):
    """(states behind a try, whether it was done)."""
    for before, behind in desk.tools[tool][2]:
        if before == tuple(states):
            return behind, True
    return tuple(states), False


def lines_again(desk, number):
    """For each sort a list of (step, gain, pairs by role), told again from [15] and [16]."""
    told = comes_again(desk)
    lines = {}
    for kind, lot in enumerate(told):
        for x, y in itertools.permutations(sorted(lot), 2):
            lines[(kind, x, y)] = found = []
            for tool, (_, roles, _) in enumerate(desk.tools):
                for role, own in enumerate(roles):
                    if own != kind:
                        continue
                    rest = [sorted(told[other]) for at, other in enumerate(roles) if at != role]
                    for others in itertools.product(*rest):
                        here, done = play(desk, tool, others[:role] + (x,) + others[role:])
                        there, also = play(desk, tool, others[:role] + (y,) + others[role:])
                        pairs = tuple(zip(roles, here, there))
                        gain = 0
                        if number[0] == "touched":
                            gain = sum(at != role and pair[1] != pair[2] and pair[0] in number[1] for at, pair in enumerate(pairs))
                        if number[0] == "otherwise":
                            gain = int(tool in number[1] and done != also)
                        found.append(((tool, role, others), gain, pairs))
    return lines


def base_again(desk, number, sort):
    if number[0] == "price":
        return price_again(desk, *sort)
    return int(number[0] == "apart" and sort[0] in number[1])


def given(pairs):
    return [pair for pair in pairs if pair[1] != pair[2]]


def table_again(desk, number):
    """The least table by layers: what still grows past as many layers as there are sorts grows for ever."""
    lines = lines_again(desk, number)
    infinite = 10 ** 60
    base = {sort: base_again(desk, number, sort) for sort in lines}
    best = {sort: infinite if base[sort] is None else base[sort] for sort in lines}
    first = dict(best)
    middle = None
    for layer in range(3 * len(lines) + 3):
        best = {
            sort: min(infinite, max([first[sort]] + [gain + sum(best[pair] for pair in given(pairs)) for _, gain, pairs in lines[sort]]))
            for sort in lines
        }
        if layer == len(lines):
            middle = dict(best)
    return {sort: None if best[sort] >= infinite or best[sort] > middle[sort] else best[sort] for sort in lines}


def worst_again(desk, tool, number):
    told, numbers = comes_again(desk), table_again(desk, number)
    best = 0
    _, roles, rows = desk.tools[tool]
    for before, behind in rows:
        if all(state in told[kind] for kind, state in zip(roles, before)):
            sums = [numbers[pair] for pair in given(zip(roles, behind, before))]
            if None in sums:
                return None
            best = max(best, sum(sums))
    return best


def count_again(desk, history, struck, number):
    """[18] by playing the world and the twin side by side."""
    things, tries = history
    world, twin = [0] * len(things), [0] * len(things)
    ever, touched, otherwise = set(), 0, 0
    for at, (tool, members) in enumerate(tries):
        here, done = play(desk, tool, [world[one] for one in members])
        there, also = play(desk, tool, [twin[one] for one in members])
        for one, state in zip(members, here):
            world[one] = state
        if at not in struck:
            for one, state in zip(members, there):
                twin[one] = state
            otherwise += number[0] == "otherwise" and tool in number[1] and done != also
        for one in range(len(things)):
            if world[one] != twin[one] and one not in ever:
                ever.add(one)
                touched += at not in struck and number[0] == "touched" and things[one] in number[1]
    if number[0] == "price":
        prices = [price_again(desk, kind, x, y) for kind, x, y in zip(things, world, twin)]
        return None if None in prices else sum(prices)
    if number[0] == "apart":
        return sum(x != y and kind in number[1] for kind, x, y in zip(things, world, twin))
    return int(touched + otherwise)


def numbers_for(rng, desk):
    """One of each of the four things that are counted, with some lot."""
    kinds = tuple(kind for kind in range(len(desk.kinds)) if rng.random() < 0.7)
    tools = tuple(tool for tool in range(len(desk.tools)) if rng.random() < 0.7)
    return (PRICE, ("apart", kinds), ("touched", kinds), ("otherwise", tools))


def random_counting_desk(rng):
    """A desk within the limits of chapter 4; often with nearly all repairs, or with few rows, so that not all is endless."""
    two = rng.random() < 0.6
    roles = 3 if rng.random() < 0.15 else 2
    desk = random_desk(rng, kinds=2 if two else 1, states=2 if roles == 3 else 3 if two else 4, tools=4, roles=roles,
                       fill=rng.choice([0.1, 0.2, 0.3, 0.5]))
    return Desk(desk.kinds, desk.tools, random_repairs(rng, [many for _, many in desk.kinds], 6, rng.choice([0.3, 0.9, 1.0])))


def wrong_number(desk, value):
    """Told again: the place for which [16] refuses any value as what is counted, None if it is right."""
    if type(value) not in (list, tuple) or not value:
        return -1
    if value[0] == "price" and len(value) == 1:
        return None
    if len(value) != 2 or value[0] not in ("apart", "touched", "otherwise") or type(value[1]) not in (list, tuple):
        return -1
    many = len(desk.tools if value[0] == "otherwise" else desk.kinds)
    for at, one in enumerate(value[1]):
        if type(one) is not int or not 0 <= one < many or any(other >= one for other in value[1][:at]):
            return at
    return None


def wrong_numbers(rng, spoilt, odd_values):
    """Any values that are hardly ever what is counted."""
    told = odd_values() + [("price", ()), ["price"], ("price",), ("Price",), "price", ("apart",), ("apart", 0), ("apart", (), ()),
                           ("touched", None), ("otherwise", "ab"), (("price",),), ("apart", (0, 0)), ("apart", (1, 0)), ("apart", (True,)),
                           ("apart", (-1,)), ("touched", (0, 9)), ("otherwise", (0, 9)), ("otherwise", [0, 1, "a"]), (0, (0,)), (None, ())]
    base = [("price",), ("apart", (0,)), ("touched", (0,)), ("otherwise", (0, 1)), ["otherwise", [1]]]
    return told + [spoilt(rng, rng.choice(base)) for _ in range(300)]
