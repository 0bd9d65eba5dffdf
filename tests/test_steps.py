"""[15]: steps and beginnings."""

import itertools
import unittest

from lateno.desks import Desk
from lateno.errors import InvalidSize, InvalidSort, InvalidStep
from lateno.reach import sorts, what_comes
from lateno.steps import beginnings, played, steps
from lateno.worlds import tried
from samples import COPY, MAIL, Case, as_lists, nested, odd_values, random_desk, spoilt

# 3 of a never comes
DESK = Desk(
    (("a", 4), ("b", 2)),
    (
        ("mix", (1, 0, 1), (((0, 0, 0), (1, 1, 0)), ((0, 3, 0), (0, 0, 0)), ((1, 1, 0), (0, 2, 1)))),
        ("turn", (0,), (((0,), (0,)), ((1,), (2,)), ((2,), (0,)))),
        ("rest", (1, 1), ()),
    ),
    ((0, 1, 0, 2),),
)


def is_sort(desk, value):
    """Told again: whether any value is a sort."""
    if type(value) not in (list, tuple) or any(type(one) is not int for one in value):
        return False
    return tuple(value) in sorts(desk)


def is_step(desk, sort, value):
    """Told again: whether any value is a step of the sort."""
    if type(value) not in (list, tuple) or len(value) != 3 or type(value[2]) not in (list, tuple):
        return False
    if any(type(one) is not int for one in (value[0], value[1]) + tuple(value[2])):
        return False
    return (value[0], value[1], tuple(value[2])) in all_steps(desk, sort)


def all_steps(desk, sort):
    """Told again: all steps of a sort."""
    told, found = what_comes(desk), []
    for tool, (_, roles, _) in enumerate(desk.tools):
        for role, kind in enumerate(roles):
            if kind == sort[0]:
                rest = [told[other] for at, other in enumerate(roles) if at != role]
                found.extend((tool, role, others) for others in itertools.product(*rest))
    return tuple(sorted(found))


class Steps(Case):
    def test_by_hand(self):
        self.same(steps(MAIL, (0, 1, 0)), ((0, 0, ()), (1, 0, ())))
        self.same(steps(COPY, [0, 1, 0]), ((0, 0, ()), (1, 0, (0,)), (1, 0, (1,)), (1, 1, (0,)), (1, 1, (1,))))
        self.same(steps(desk=DESK, sort=(0, 0, 2)), ((0, 1, (0, 0)), (0, 1, (0, 1)), (0, 1, (1, 0)), (0, 1, (1, 1)), (1, 0, ())))
        self.same(len(steps(DESK, (1, 0, 1))), 2 * 6 + 2 * 2)
        self.same(steps(Desk((("a", 2), ("b", 1)), (("t", (0, 0), (((0, 0), (1, 0)),)), ("n", (1,), ())), ()), (0, 0, 1)),
                  ((0, 0, (0,)), (0, 0, (1,)), (0, 1, (0,)), (0, 1, (1,))))

    def test_against_telling_again(self):
        rng = self.rng(1)
        for _ in range(100):
            desk = random_desk(rng, states=4, roles=3)
            for sort in sorts(desk):
                self.same(steps(desk, sort), all_steps(desk, sort))


class Played(Case):
    def test_by_hand(self):
        self.same(played(MAIL, (0, 1, 0), (1, 0, ())), (True, False, ((0, 2, 0),)))
        self.same(played(MAIL, (0, 2, 0), (0, 0, ())), (False, True, ((0, 2, 1),)))
        self.same(played(MAIL, [0, 1, 0], [0, 0, []]), (False, True, ((0, 1, 1),)))
        self.same(played(MAIL, (0, 1, 2), (0, 0, ())), (False, False, ((0, 1, 2),)))
        self.same(played(COPY, (0, 1, 0), (1, 0, (0,))), (True, False, ((0, 1, 0), (0, 1, 0))))
        self.same(played(COPY, (0, 1, 0), (1, 1, (1,))), (False, True, ((0, 1, 1), (0, 1, 1))))
        self.same(played(desk=DESK, sort=(0, 1, 0), step=(0, 1, (1, 0))), (True, False, ((1, 0, 1), (0, 2, 0), (1, 1, 0))))
        self.same(played(DESK, (1, 1, 0), (0, 2, (0, 0))), (False, True, ((1, 0, 1), (0, 0, 1), (1, 1, 0))))

    def test_as_one_try_in_two_worlds(self):
        rng = self.rng(2)
        for _ in range(150):
            desk = random_desk(rng, roles=3)
            for sort in sorts(desk):
                for tool, role, others in steps(desk, sort):
                    members = tuple(range(len(desk.tools[tool][1])))
                    worlds = [others[:role] + (state,) + others[role:] for state in sort[1:]]
                    (one, done), (two, also) = [tried(desk, world, (tool, members)) for world in worlds]
                    self.same(played(desk, sort, (tool, role, others)), (done, also, tuple(zip(desk.tools[tool][1], one, two))))


class Beginnings(Case):
    def test_by_hand(self):
        self.same(beginnings(MAIL, 0), ((0, ((0, 1, 0),)),))
        self.same(beginnings(COPY, 1), ((0, ((0, 1, 1), (0, 1, 0))),))
        self.same(beginnings(DESK, 0), ((0, ((1, 1, 0), (0, 1, 0), (1, 0, 0))), (2, ((1, 0, 1), (0, 2, 1), (1, 1, 0)))))
        self.same(beginnings(desk=DESK, tool=1), ((0, ((0, 0, 0),)), (1, ((0, 2, 1),)), (2, ((0, 0, 2),))))
        self.same(beginnings(DESK, 2), ())

    def test_against_telling_again(self):
        rng = self.rng(3)
        for _ in range(200):
            desk = random_desk(rng, states=4, roles=3, fill=0.3)
            told = what_comes(desk)
            for tool, (_, roles, rows) in enumerate(desk.tools):
                want = []
                for number, (before, behind) in enumerate(rows):
                    if all(state in told[kind] for kind, state in zip(roles, before)):
                        want.append((number, tuple(zip(roles, behind, before))))
                self.same(beginnings(desk, tool), tuple(want))


class Errors(Case):
    def test_no_sort(self):
        bad = [None, 0, "010", (), (0, 1), (0, 1, 0, 0), (2, 0, 1), (-1, 0, 1), (0, 0, 3), (0, 3, 0), (0, 4, 0), (0, 0, -1), (0, 1, 1),
               (True, 0, 1), (False, 0, 1), (0, True, 0), (0, 0, True), (0, "1", 0), (0, (1,), 0), MAIL, (MAIL, 0, 1), nested(12)]
        for value in bad:
            self.fails(InvalidSort, -1, steps, DESK, value)
            self.fails(InvalidSort, -1, played, DESK, value, None)
            if type(value) is tuple:
                self.fails(InvalidSort, -1, steps, DESK, list(value))

    def test_no_step(self):
        bad = [None, 0, "00", (), (0, 1), (0, 1, (0, 0), 0), (3, 0, ()), (-1, 0, ()), (2, 0, (0,)), (0, 0, (0, 0)), (0, 2, (0, 0)),
               (0, 3, (0, 0)), (0, -1, (0, 0)), (0, 1, (0,)), (0, 1, (0, 0, 0)), (0, 1, (0, 2)), (0, 1, (0, -1)), (0, 1, (0, True)),
               (0, 1, None), (0, 1, "00"), (0, True, (0, 0)), (True, 0, ()), (1, False, ()), (1, 0, (0,)), (1, 0, 0), (1, "0", ()),
               (0, 1, ((0,), 0)), MAIL, (MAIL, 0, ()), (1, 0, MAIL), nested(12)]
        for value in bad:
            self.fails(InvalidStep, -1, played, DESK, (0, 1, 0), value)
            self.fails(InvalidStep, -1, played, DESK, [0, 1, 0], as_lists(value))
        self.fails(InvalidStep, -1, played, DESK, (1, 1, 0), (0, 0, (3, 0)))

    def test_any_value_and_spoilt_ones(self):
        rng = self.rng(4)
        for _ in range(3000):
            desk = random_desk(rng, roles=3)
            if not sorts(desk):
                continue
            sort = rng.choice(sorts(desk))
            value = spoilt(rng, sort)
            if not is_sort(desk, value):
                self.fails(InvalidSort, -1, steps, desk, value)
            else:
                self.same(steps(desk, value), all_steps(desk, value))
            if steps(desk, sort):
                step = spoilt(rng, rng.choice(steps(desk, sort)))
                if not is_step(desk, sort, step):
                    self.fails(InvalidStep, -1, played, desk, sort, step)
                else:
                    played(desk, sort, step)

    def test_no_tool(self):
        for value in odd_values() + [3, -1, 4]:
            if type(value) is int and 0 <= value < 3:
                continue
            self.fails(InvalidSize, "tool", beginnings, DESK, value)
        self.fails(InvalidSize, "tool", beginnings, Desk((("a", 1),), (), ()), 0)

    def test_arguments_stay(self):
        sort, step = [0, 1, 0], [0, 1, [0, 0]]
        steps(DESK, sort)
        played(DESK, sort, step)
        self.assertEqual((sort, step), ([0, 1, 0], [0, 1, [0, 0]]))


if __name__ == "__main__":
    unittest.main()
