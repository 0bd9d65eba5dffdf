"""Plans, histories for them, standings and fears that the tests of chapters 5 and 6 share."""

import collections
import functools
import itertools

from lateno.desks import Desk
from lateno.plans import both_plan, no_plan, row_plan
from lateno.reach import what_comes
from samples import is_tuples, no_bools, random_desk, random_things, random_try


def possible_tools(desk):
    """The tools of which some row has befores that come."""
    told = what_comes(desk)
    return [
        number for number, (_, roles, rows) in enumerate(desk.tools)
        if any(all(state in told[kind] for kind, state in zip(roles, before)) for before, _ in rows)
    ]


def random_plan(rng, desk, strikes=3, columns=4):
    """Some plan, None if no tool is possible."""
    tools = possible_tools(desk)
    if not tools:
        return None
    struck = tuple(rng.choice(tools) for _ in range(rng.randint(1, strikes)))
    ways, told = [()], []
    for _ in range(rng.randint(1, columns)):
        parent, strike = rng.randrange(len(ways)), rng.randrange(len(struck))
        if strike not in ways[parent]:
            ways.append(ways[parent] + (strike,))
            told.append((parent, strike))
    return (struck, tuple(told or [(0, 0)]))


def random_plan_history(rng, desk, plan, things=6, deeds=14):
    """Some history for the plan, None if none was found."""
    kinds = random_things(rng, desk, rng.randint(1, things))
    world, told = [0] * len(kinds), []
    for _ in range(60):
        one = random_try(rng, desk, kinds)
        if one is None or len(told) == deeds:
            break
        behind = desk.behind(one[0], [world[member] for member in one[1]])
        if behind is not None:
            told.append(one)
            for member, state in zip(one[1], behind):
                world[member] = state
    struck = []
    for tool in plan[0]:
        free = [number for number, (one, _) in enumerate(told) if one == tool and number not in struck]
        if not free:
            return None
        struck.append(rng.choice(free))
    return (kinds, tuple(told), tuple(struck))


def random_case(rng, strikes=3, columns=4, kinds=2, states=3, tools=4, fill=0.5):
    """(desk, plan, history for the plan)."""
    while True:
        desk = random_desk(rng, kinds=kinds, states=states, tools=tools, fill=fill)
        plan = random_plan(rng, desk, strikes, columns)
        if plan is not None:
            for _ in range(5):
                history = random_plan_history(rng, desk, plan)
                if history is not None:
                    return desk, plan, history


@functools.lru_cache(maxsize=None)
def fitting(plan, comes, done):
    """All sorts of rows that fit."""
    found = set()
    for kind, lot in enumerate(comes):
        for row in itertools.product(lot, repeat=len(plan[1]) + 1):
            if len(set(row)) > 1 and all(strike in done or row[j + 1] == row[parent] for j, (parent, strike) in enumerate(plan[1])):
                found.add((kind, row))
    return frozenset(found)


def are_standings(desk, plan, value):
    """Whether any value is a tuple of standings of fitting rows, told again."""
    if type(value) is not tuple or not is_tuples(value) or not no_bools(value):
        return False
    for one in value:
        if type(one) is not tuple or len(one) != 2 or type(one[0]) is not tuple or type(one[1]) is not tuple:
            return False
        if any(type(strike) is not int or not 0 <= strike < len(plan[0]) for strike in one[0]):
            return False
        if list(one[0]) != sorted(set(one[0])) or any(sort not in fitting(plan, what_comes(desk), one[0]) for sort in one[1]):
            return False
        if list(one[1]) != sorted(one[1]):
            return False
    return True


def above(standing, other):
    """Whether a standing lies above another."""
    return standing[0] == other[0] and not collections.Counter(other[1]) - collections.Counter(standing[1])


def random_fear(rng, rows=300):
    """(desk, plan, goal) of a net small enough to be told again."""
    while True:
        repairs = rng.choice([0.2, 0.5, 0.9])
        desk = random_desk(rng, kinds=rng.choice([1, 2]), states=3, tools=3, fill=rng.choice([0.2, 0.4, 0.7]))
        ways = [(k, x, y) for k, (_, many) in enumerate(desk.kinds) for x in range(many) for y in range(many) if x != y]
        desk = Desk(desk.kinds, desk.tools, [way + (rng.randint(1, 5),) for way in ways if rng.random() < repairs])
        tools = possible_tools(desk)
        if not tools:
            continue
        shape = rng.randrange(4)
        plan = no_plan(rng.choice(tools))
        if shape == 1:
            plan = row_plan((rng.choice(tools), rng.choice(tools)))
        if shape == 2:
            plan = both_plan(rng.choice(tools), rng.choice(tools))
        if shape == 3:
            plan = random_plan(rng, desk, 2, 2)
        comes = what_comes(desk)
        total = 0
        for _, roles, _ in desk.tools:
            many = 1
            for kind in roles:
                many *= len(comes[kind]) ** (len(plan[1]) + 1)
            total += many
        if total <= rows:
            columns = sorted(rng.sample(range(len(plan[1]) + 1), 2))
            return desk, plan, rng.choice([None, tuple(columns)])
