"""[14]: what comes, and histories that bring it."""

import unittest

from lateno.desks import Desk
from lateno.errors import InvalidSize, InvalidWants, Refused
from lateno.reach import closed_holds, ready, sorts, what_comes
from lateno.worlds import all_done, need_history, world_behind
from samples import COPY, LOCK, MAIL, Case, as_lists, is_tuples, nested, odd_values, random_desk, spoilt

# 1 of a is brought with b at 1 only, which is brought by two of a at 0; 3 of a never comes
TWO = Desk(
    (("a", 4), ("b", 2)),
    (
        ("one", (0, 1), (((0, 1), (1, 0)), ((3, 0), (2, 0)))),
        ("two", (0, 0, 1), (((0, 0, 0), (0, 0, 1)), ((1, 1, 0), (2, 0, 0)))),
        ("same", (0,), (((0,), (0,)), ((3,), (3,)))),
    ),
    (),
)
# each state takes twice the things of the one ahead
DOUBLE = Desk((("a", 6), ("b", 6)), (
    ("up", (0, 0), [((x, x), (x + 1, x)) for x in range(5)]),
    ("over", (0, 0, 1), [((5, 5, 0), (5, 5, 1))]),
    ("more", (1, 1), [((x, x), (0, x + 1)) for x in range(1, 5)]),
), ())


def comes_by_rounds(desk):
    """Told again: the states that come, by rounds over all rows."""
    marked = {(kind, 0) for kind in range(len(desk.kinds))}
    while True:
        more = set(marked)
        for _, roles, rows in desk.tools:
            for before, behind in rows:
                if {(kind, state) for kind, state in zip(roles, before)} <= marked:
                    more |= {(kind, state) for kind, state in zip(roles, behind)}
        if more == marked:
            return tuple(tuple(sorted(state for one, state in marked if one == kind)) for kind in range(len(desk.kinds)))
        marked = more


def fewest(desk, kind, state):
    """Told again: the fewest things for one state, None if it does not come; by trees of so many layers."""
    layer = {(one, 0): 1 for one in range(len(desk.kinds))}
    for _ in range(sum(many for _, many in desk.kinds) + 1):
        found = dict(layer)
        for _, roles, rows in desk.tools:
            for before, behind in rows:
                needs = [layer.get(pair) for pair in zip(roles, before)]
                if None not in needs:
                    for pair in zip(roles, behind):
                        found[pair] = min(found.get(pair, sum(needs)), sum(needs))
        layer = found
    return layer.get((kind, state))


def is_closed(desk, value):
    """Told again: whether any value is a tuple of closed lots."""
    if type(value) is not tuple or len(value) != len(desk.kinds):
        return False
    for lot, (_, many) in zip(value, desk.kinds):
        if type(lot) is not tuple or not all(type(state) is int and 0 <= state < many for state in lot):
            return False
        if list(lot) != sorted(set(lot)) or 0 not in lot:
            return False
    for _, roles, rows in desk.tools:
        for before, behind in rows:
            if all(state in value[kind] for kind, state in zip(roles, before)):
                if not all(state in value[kind] for kind, state in zip(roles, behind)):
                    return False
    return True


class WhatComes(Case):
    def test_by_hand(self):
        self.same(what_comes(MAIL), ((0, 1, 2),))
        self.same(what_comes(COPY), ((0, 1),))
        self.same(what_comes(TWO), ((0, 1, 2), (0, 1)))
        self.same(what_comes(Desk((("a", 3), ("b", 1)), (), ())), ((0,), (0,)))
        self.same(what_comes(Desk((("a", 3),), (("t", (0,), (((1,), (2,)),)),), ())), ((0,),))
        self.same(what_comes(Desk((("a", 4),), (("t", (0,), (((0,), (3,)), ((2,), (1,)))),), ())), ((0, 3),))
        self.same(what_comes(desk=DOUBLE), ((0, 1, 2, 3, 4, 5), (0, 1, 2, 3, 4, 5)))

    def test_against_rounds(self):
        rng = self.rng(1)
        for _ in range(500):
            desk = random_desk(rng, states=4, roles=3, fill=0.15)
            self.same(what_comes(desk), comes_by_rounds(desk))

    def test_sorts(self):
        self.same(sorts(MAIL), ((0, 0, 1), (0, 0, 2), (0, 1, 0), (0, 1, 2), (0, 2, 0), (0, 2, 1)))
        self.same(sorts(desk=TWO), sorts(MAIL) + ((1, 0, 1), (1, 1, 0)))
        self.same(sorts(Desk((("a", 3),), (), ())), ())
        rng = self.rng(2)
        for _ in range(100):
            desk = random_desk(rng, states=4, fill=0.15)
            told = comes_by_rounds(desk)
            self.same(list(sorts(desk)), sorted((kind, x, y) for kind, lot in enumerate(told) for x in lot for y in lot
                                                if x != y))


class ClosedPapers(Case):
    def test_by_hand(self):
        self.same(closed_holds(TWO, ((0, 1, 2), (0, 1))), True)
        self.same(closed_holds(TWO, ((0, 1, 2, 3), (0, 1))), True)
        self.same(closed_holds(TWO, ((0, 1, 2), (0,))), False)
        self.same(closed_holds(MAIL, ((0, 1, 2),)), True)
        self.same(closed_holds(MAIL, ((0,),)), False)
        self.same(closed_holds(MAIL, ((0, 1),)), False)
        self.same(closed_holds(MAIL, ((1, 2),)), False)
        self.same(closed_holds(MAIL, ((0, 2),)), False)
        self.same(closed_holds(MAIL, ((0, 2, 1),)), False)
        self.same(closed_holds(MAIL, ((0, 1, 1, 2),)), False)
        self.same(closed_holds(MAIL, ((0, 1, 2, 3),)), False)
        self.same(closed_holds(MAIL, ((-1, 0, 1, 2),)), False)
        self.same(closed_holds(MAIL, ((0, True, 2),)), False)
        self.same(closed_holds(MAIL, ((False, 1, 2),)), False)
        self.same(closed_holds(MAIL, [(0, 1, 2)]), False)
        self.same(closed_holds(MAIL, ([0, 1, 2],)), False)
        self.same(closed_holds(MAIL, ((0, 1, 2), (0,))), False)
        self.same(closed_holds(MAIL, ()), False)
        self.same(closed_holds(desk=MAIL, value=((0, 1, 2),)), True)

    def test_any_value(self):
        for value in odd_values() + [nested(12), (MAIL,), ((MAIL,),), (((0,),),)]:
            for desk in (MAIL, TWO, COPY):
                self.same(closed_holds(desk, value), is_closed(desk, value))
                self.same(closed_holds(desk, (value,)), is_closed(desk, (value,)))
                self.same(closed_holds(desk, ((0, value),)), is_closed(desk, ((0, value),)))

    def test_spoilt_papers_and_what_comes(self):
        rng = self.rng(3)
        for _ in range(3000):
            desk = random_desk(rng, states=4, fill=0.2)
            self.same(closed_holds(desk, what_comes(desk)), True)
            value = what_comes(desk)
            if rng.random() < 0.5:
                value = tuple(tuple(range(many)) for _, many in desk.kinds)
            value = spoilt(rng, value)
            self.same(closed_holds(desk, value), is_closed(desk, value))


class Ready(Case):
    def brought(self, desk, wants):
        history = ready(desk, wants)
        self.assertTrue(is_tuples(history))
        self.same(need_history(desk, history), history)
        self.assertGreaterEqual(len(history[0]), len(wants))
        world = world_behind(desk, history)
        for thing, want in enumerate(wants):
            self.same((history[0][thing], world[thing]), tuple(want))

    def test_by_hand(self):
        self.brought(MAIL, ())
        self.brought(MAIL, [])
        self.brought(MAIL, ((0, 2), (0, 0), (0, 1), (0, 2)))
        self.brought(MAIL, [[0, 2], (0, 1)])
        self.brought(TWO, ((1, 1), (0, 2), (0, 2), (1, 0), (0, 1)))
        self.brought(COPY, ((0, 1),) * 5)
        self.brought(DOUBLE, ((0, 5), (1, 2), (0, 0)))
        self.assertTrue(all_done(MAIL, ready(desk=MAIL, wants=((0, 2),))))

    def test_states_that_go_round(self):
        ring = Desk((("a", 4),), (
            ("back", (0,), (((1,), (1,)), ((2,), (1,)), ((3,), (2,)))),
            ("on", (0,), (((0,), (3,)), ((1,), (2,)), ((2,), (3,)))),
        ), ())
        self.brought(ring, ((0, 1), (0, 2), (0, 3), (0, 1)))

    def test_all_that_comes_stands_at_once(self):
        rng = self.rng(4)
        for _ in range(300):
            desk = random_desk(rng, states=4, roles=3 if rng.random() < 0.3 else 2, fill=0.25)
            told = [(kind, state) for kind, lot in enumerate(what_comes(desk)) for state in lot]
            self.brought(desk, [rng.choice(told) for _ in range(rng.randint(0, 6))])

    def test_wrong_wants(self):
        for value in (None, True, 3, "ab", MAIL, {}):
            self.fails(InvalidWants, -1, ready, MAIL, value)
        bad = [None, 0, "00", (), (0,), (0, 0, 0), (1, 0), (-1, 0), (True, 0), (0, 3), (0, -1), (0, True), (0, None),
               ("0", 0), ((0,), 0), MAIL, (MAIL, 0), nested(11)]
        for value in bad:
            self.fails(InvalidWants, 1, ready, MAIL, ((0, 2), value, None))
            self.fails(InvalidWants, 1, ready, MAIL, [[0, 2], value])

    def test_refused_behind_all_wrong_wants(self):
        self.fails(Refused, 1, ready, TWO, ((0, 2), (0, 3), (0, 3)))
        self.fails(InvalidWants, 2, ready, TWO, ((0, 2), (0, 3), (0, 4)))
        self.fails(Refused, 4001, ready, TWO, ((0, 0),) * 4001 + ((0, 3),))

    def test_too_many_things(self):
        self.brought(TWO, ((0, 0),) * 4000)
        self.fails(InvalidSize, "things", ready, TWO, ((0, 0),) * 4001)
        # b at 1 takes three things, a at 1 four
        self.brought(TWO, ((1, 1),) * 1332 + ((0, 1),))
        self.fails(InvalidSize, "things", ready, TWO, ((1, 1),) * 1332 + ((0, 1), (0, 0)))
        self.fails(InvalidSize, "things", ready, DOUBLE, ((1, 5),) * 5)

    def test_the_fewest_things_are_counted(self):
        for kind, state in ((0, 0), (0, 3), (0, 5), (1, 1), (1, 3), (1, 5)):
            many = fewest(DOUBLE, kind, state)
            self.limit(DOUBLE, kind, state, many)
        rng = self.rng(5)
        for _ in range(60):
            desk = random_desk(rng, states=4, roles=3, fill=0.2)
            for kind, lot in enumerate(what_comes(desk)):
                state = rng.choice(lot)
                self.limit(desk, kind, state, fewest(desk, kind, state))

    def limit(self, desk, kind, state, many):
        fit = 4000 // many
        wants = ((kind, state),) * fit + ((0, 0),) * (4000 - fit * many)
        ready(desk, wants)
        self.fails(InvalidSize, "things", ready, desk, wants + ((0, 0),))

    def test_wants_stay(self):
        wants = [[0, 2], [0, 1]]
        ready(MAIL, wants)
        self.assertEqual(wants, [[0, 2], [0, 1]])
        self.assertEqual(as_lists(ready(MAIL, wants)), as_lists(ready(MAIL, ((0, 2), (0, 1)))))


class NothingElse(Case):
    def test_nothing_that_does_not_come_is_ever_met(self):
        rng = self.rng(6)
        from samples import random_history
        for _ in range(300):
            desk = random_desk(rng, states=4, fill=0.2)
            history = random_history(rng, desk, 5, 15)
            told = what_comes(desk)
            for kind, state in zip(history[0], world_behind(desk, history)):
                self.assertIn(state, told[kind])
        self.same(world_behind(LOCK, ready(LOCK, ((0, 2),)))[0], 2)


if __name__ == "__main__":
    unittest.main()
