"""Plans, and histories for them, that the tests of chapter 5 share."""

from lateno.reach import what_comes
from samples import random_desk, random_things, random_try


def possible_tools(desk):
    """The tools of which some row has befores that come."""
    told = what_comes(desk)
    return [
        number for number, (_, roles, rows) in enumerate(desk.tools)
        if any(all(state in told[kind] for kind, state in zip(roles, before)) for before, _ in rows)
    ]


def random_plan(rng, desk, strikes=3, columns=4):
    """Some plan, None if no tool is possible."""
    tools = possible_tools(desk)
    if not tools:
        return None
    struck = tuple(rng.choice(tools) for _ in range(rng.randint(1, strikes)))
    ways, told = [()], []
    for _ in range(rng.randint(1, columns)):
        parent, strike = rng.randrange(len(ways)), rng.randrange(len(struck))
        if strike not in ways[parent]:
            ways.append(ways[parent] + (strike,))
            told.append((parent, strike))
    return (struck, tuple(told or [(0, 0)]))


def random_plan_history(rng, desk, plan, things=6, deeds=14):
    """Some history for the plan, None if none was found."""
    kinds = random_things(rng, desk, rng.randint(1, things))
    world, told = [0] * len(kinds), []
    for _ in range(60):
        one = random_try(rng, desk, kinds)
        if one is None or len(told) == deeds:
            break
        behind = desk.behind(one[0], [world[member] for member in one[1]])
        if behind is not None:
            told.append(one)
            for member, state in zip(one[1], behind):
                world[member] = state
    struck = []
    for tool in plan[0]:
        free = [number for number, (one, _) in enumerate(told) if one == tool and number not in struck]
        if not free:
            return None
        struck.append(rng.choice(free))
    return (kinds, tuple(told), tuple(struck))


def random_case(rng, strikes=3, columns=4, kinds=2, states=3, tools=4, fill=0.5):
    """(desk, plan, history for the plan)."""
    while True:
        desk = random_desk(rng, kinds=kinds, states=states, tools=tools, fill=fill)
        plan = random_plan(rng, desk, strikes, columns)
        if plan is not None:
            for _ in range(5):
                history = random_plan_history(rng, desk, plan)
                if history is not None:
                    return desk, plan, history
