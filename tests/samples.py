"""Desks, histories and odd values that the tests share."""

import random
import unittest

from lateno.desks import Desk
from lateno.houses import House


SIGN = ("sign", (0,), (((0,), (1,)),))
SEND = ("send", (0,), (((1,), (2,)),))
MAIL = Desk((("mail", 3),), (SIGN, SEND), ((0, 1, 0, 1), (0, 2, 0, 3)))
COPY = Desk((("mail", 2),), (("sign", (0,), (((0,), (1,)),)), ("copy", (0, 0), (((1, 0), (1, 1)),))), ())
LOCK = Desk(
    (("x", 3),),
    (("lock", (0,), (((0,), (1,)),)), ("free", (0,), (((1,), (0,)),)), ("use", (0,), (((0,), (2,)),))),
    ((0, 0, 2, 4), (0, 1, 0, 1), (0, 2, 0, 2)),
)


def nested(times):
    """A list in a list .., so many times."""
    value = []
    for _ in range(times):
        value = [value]
    return value


def odd_values():
    """Any values that are hardly ever right."""
    return [
        True, False, None, -1, 7, 10 ** 30, "", "a", "mail", "ab", (), [], [[]], ((),), (0,), [0], (0, 0), [0, 1, 2],
        (True, 0), ("a", "b"), (0, 0, 0), (None, None, None), (0, 0, 0, 0), ("a", 1), ["a", True], nested(12),
        MAIL, House(MAIL, 1), (MAIL, 0), 1, (0, (0,)), [0, [True]], (0, ("0",)), ("buy", 0),
    ]


def random_desk(rng, kinds=2, states=3, tools=4, roles=2, price=6, fill=0.5, total_chance=0.0):
    """A desk of at most so many of each, with rows for about that part of all befores."""
    manys = [rng.randint(1, states) for _ in range(rng.randint(1, kinds))]
    if max(manys) == 1:
        manys[0] = states
    told_kinds = [("k" + "abcdef"[at], many) for at, many in enumerate(manys)]
    told_tools = []
    for at in range(rng.randint(1, tools)):
        part = 1.0 if rng.random() < total_chance else fill
        own = [rng.randrange(len(manys)) for _ in range(rng.randint(1, roles))]
        rows = []
        for before in befores_of(manys, own):
            if rng.random() < part:
                rows.append((before, tuple(rng.randrange(manys[kind]) for kind in own)))
        told_tools.append(("t" + "abcdefghijklmnopqrst"[at], tuple(own), tuple(rows)))
    return Desk(told_kinds, told_tools, random_repairs(rng, manys, price))


def random_repairs(rng, manys, price=6, chance=0.5):
    """Some repairs of kinds with so many states each, ascending."""
    found = []
    for kind, many in enumerate(manys):
        for x in range(many):
            for y in range(many):
                if x != y and rng.random() < chance:
                    found.append((kind, x, y, rng.randint(1, price)))
    return tuple(found)


def befores_of(manys, roles):
    """All states of these roles, ascending."""
    found = [()]
    for kind in roles:
        found = [before + (state,) for before in found for state in range(manys[kind])]
    return found


def random_things(rng, desk, many):
    return tuple(rng.randrange(len(desk.kinds)) for _ in range(many))


def random_try(rng, desk, things):
    """Some try on these things, None if none was found."""
    for _ in range(20):
        tool = rng.randrange(len(desk.tools))
        members = []
        for kind in desk.tools[tool][1]:
            free = [thing for thing, one in enumerate(things) if one == kind and thing not in members]
            if not free:
                break
            members.append(rng.choice(free))
        else:
            return (tool, tuple(members))
    return None


def random_history(rng, desk, things=4, tries=8):
    told = random_things(rng, desk, rng.randint(1, things))
    found = [random_try(rng, desk, told) for _ in range(rng.randint(0, tries))]
    return (told, tuple(one for one in found if one is not None))


def as_lists(value):
    """The value with lists in the place of all tuples."""
    if isinstance(value, (list, tuple)):
        return [as_lists(one) for one in value]
    return value


def is_tuples(value):
    """Whether no list stands in the value, however deep."""
    if isinstance(value, tuple):
        return all(is_tuples(one) for one in value)
    return not isinstance(value, (list, dict, set))


def no_bools(value):
    """Whether no bool stands in the value, however deep."""
    if isinstance(value, tuple):
        return all(no_bools(one) for one in value)
    return not isinstance(value, bool)


def spoilt(rng, value):
    """The value with something in it, anywhere, turned into something else."""
    if isinstance(value, (list, tuple)) and value and rng.random() < 0.85:
        parts = list(value)
        at = rng.randrange(len(parts))
        turn = rng.random()
        if turn < 0.7:
            parts[at] = spoilt(rng, parts[at])
        elif turn < 0.8:
            parts.insert(at, parts[at])
        elif turn < 0.9:
            del parts[at]
        else:
            other = rng.randrange(len(parts))
            parts[at], parts[other] = parts[other], parts[at]
        return tuple(parts) if isinstance(value, tuple) else parts
    if isinstance(value, int) and rng.random() < 0.6:
        return rng.choice([value + 1, value - 1, value + 2, -value, bool(value), 0])
    return rng.choice(odd_values())


class Case(unittest.TestCase):
    """What all tests ask."""

    def fails(self, error, at, call, *told, **named):
        """That a call raises just this error, with this `at` (or word), bools kept apart from integers."""
        with self.assertRaises(error) as caught:
            call(*told, **named)
        self.assertIs(type(caught.exception), error)
        found = caught.exception.word if hasattr(caught.exception, "word") else caught.exception.at
        self.assertEqual(repr(found), repr(at))

    def same(self, found, told):
        """That a result is just this one: bools apart from integers, tuples throughout."""
        self.assertEqual(repr(found), repr(told))

    def rng(self, seed):
        return random.Random(seed)
