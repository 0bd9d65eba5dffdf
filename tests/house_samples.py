"""Houses with a common seam, and what is told of them again; shared by the tests of chapter 8."""

import itertools

from lateno.desks import Desk
from lateno.houses import House
from table_samples import given, play, price_again

# [47]'s houses by hand: m of two states, q of three, all repaired at 1
REPAIRED = ((0, 0, 1, 1), (0, 1, 0, 1)) + tuple((1, x, y, 1) for x in range(3) for y in range(3) if x != y)
BY_M = tuple((((0, q), (0, 0)), ((1, q), (1, 1))) for q in range(3))
T = ("t", (0, 1), tuple(sorted(row for pair in BY_M for row in pair)))
U = ("u", (0, 1), tuple(((m, q), (m, m + 1)) for m in range(2) for q in range(3)))
R = ("r", (0, 1), tuple(((m, q), (m, 2 * m)) for m in range(2) for q in range(3)))


def by_hand(*tools):
    return House(Desk((("m", 2), ("q", 3)), tools, REPAIRED), 2)


D, D_TOO, R_ALONE = by_hand(T, U), by_hand(T, U, R), by_hand(R)


def random_seam(rng):
    """(the seam's kinds, its repairs): at most five states, nearly all repaired or some."""
    manys = rng.choice([(2,), (3,), (3,), (4,), (2, 2), (2, 3), (3, 2), (5,)])
    kinds = tuple(("s" + "xy"[at], many) for at, many in enumerate(manys))
    chance = rng.choice([0.4, 0.8, 1.0, 1.0])
    return kinds, all_repairs(rng, manys, 0, chance)


def all_repairs(rng, manys, first, chance):
    return tuple((first + at, x, y, rng.randint(1, 4)) for at, many in enumerate(manys) for x in range(many) for y in range(many)
                 if x != y and rng.random() < chance)


def random_house(rng, seam, names, tools=4, fill=None):
    """A house with this seam, none or one own kind of two states; its names begin so."""
    kinds, repairs = seam
    own = ((names + "own", 2),) if rng.random() < 0.5 else ()
    told = []
    for at in range(rng.randint(0, tools)):
        roles = tuple(rng.randrange(len(kinds + own)) for _ in range(rng.randint(1, 2)))
        part = rng.choice([0.1, 0.25, 0.5]) if fill is None else fill
        befores = itertools.product(*[range((kinds + own)[kind][1]) for kind in roles])
        rows = [(before, tuple(rng.randrange((kinds + own)[kind][1]) for kind in roles)) for before in befores if rng.random() < part]
        told.append((names + "cdefghi"[at], roles, rows))
    return House(Desk(kinds + own, told, repairs + all_repairs(rng, [2] * len(own), len(kinds), rng.choice([0.5, 0.9]))), len(kinds))


def random_waits(rng, house, chance=0.3):
    return tuple(tool for tool in range(len(house.desk.tools)) if rng.random() < chance)


def pairs_behind(house, waits, comes, starts):
    """All pairs that these come to by steps of tools that don't wait, with others at states that come."""
    desk = house.desk
    seen, left = set(starts), list(starts)
    while left:
        kind, x, y = left.pop()
        for tool, (_, roles, _) in enumerate(desk.tools):
            for role, own in enumerate(roles):
                if own != kind or tool in waits:
                    continue
                for others in itertools.product(*[comes[other] for at, other in enumerate(roles) if at != role]):
                    here = play(desk, tool, others[:role] + (x,) + others[role:])[0]
                    there = play(desk, tool, others[:role] + (y,) + others[role:])[0]
                    for pair in given(zip(roles, here, there)):
                        if pair not in seen:
                            seen.add(pair)
                            left.append(pair)
    return seen


def is_lost(house, pairs):
    return any(price_again(house.desk, *pair) is None for pair in pairs)


def order_again(sorts):
    """[44]'s order, told again as it stands."""
    found = set(sorts)
    while True:
        more = {(k, x, y) for k, x, h in found for kind, other, y in found if kind == k and other == h and x != y}
        if more <= found:
            return tuple(sorted(found))
        found |= more
