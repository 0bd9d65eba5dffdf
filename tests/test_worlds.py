"""[8], [9], [10]: histories, worlds, histories that are alike."""

import math
import unittest

from lateno.desks import Desk
from lateno.errors import InvalidHistory, InvalidSize
from lateno.worlds import all_done, alike_count, alike_histories, interleaved, need_history, normal_history, outcomes
from lateno.worlds import thing_rows, tried, world_behind, worlds_along
from samples import COPY, MAIL, Case, as_lists, is_tuples, nested, odd_values, random_desk, random_history, random_things
from samples import random_try, spoilt

PAIR = Desk(
    (("a", 3), ("b", 2)),
    (
        ("give", (0, 1), (((0, 0), (1, 1)), ((1, 1), (2, 0)))),
        ("turn", (0,), (((0,), (1,)), ((2,), (0,)))),
        ("swap", (0, 0), (((0, 1), (1, 0)), ((1, 0), (0, 1)), ((2, 2), (2, 2)))),
    ),
    (),
)
HISTORY = ((0, 1, 0), ((0, (0, 1)), (0, (2, 1)), (1, (2,)), (0, (2, 1)), (2, (0, 2)), (1, (2,)), (2, (2, 0))))
WORLDS = ((0, 0, 0), (1, 1, 0), (1, 1, 0), (1, 1, 1), (1, 0, 2), (1, 0, 2), (1, 0, 0), (0, 0, 1))
DONE = (True, False, True, True, False, True, True)


def played(desk, history):
    """Told again: (the worlds, the outcomes)."""
    world = [0] * len(history[0])
    worlds, done = [tuple(world)], []
    for tool, members in history[1]:
        befores = tuple(world[member] for member in members)
        rows = {before: behind for before, behind in desk.tools[tool][2]}
        done.append(befores in rows)
        for member, state in zip(members, rows.get(befores, befores)):
            world[member] = state
        worlds.append(tuple(world))
    return tuple(worlds), tuple(done)


def wrong_history(desk, value):
    """Told again: the place of the first fault, None for a right history."""
    if type(value) not in (list, tuple) or len(value) != 2 or any(type(one) not in (list, tuple) for one in value):
        return -1
    things, tries = value
    if not all(type(kind) is int and 0 <= kind < len(desk.kinds) for kind in things):
        return -1
    for at, one in enumerate(tries):
        if type(one) not in (list, tuple) or len(one) != 2:
            return at
        tool, members = one
        if type(tool) is not int or tool not in range(len(desk.tools)) or type(members) not in (list, tuple):
            return at
        roles = desk.tools[tool][1]
        if len(members) != len(roles) or not all(type(one) is int and 0 <= one < len(things) for one in members):
            return at
        if len(set(members)) < len(members) or [things[one] for one in members] != list(roles):
            return at
    return None


def all_alike(history):
    """All histories that come of one by exchanges of neighbours without a common thing."""
    found, left = {history[1]}, [history[1]]
    while left:
        tries = left.pop()
        for at in range(len(tries) - 1):
            if not set(tries[at][1]) & set(tries[at + 1][1]):
                other = tries[:at] + (tries[at + 1], tries[at]) + tries[at + 2:]
                if other not in found:
                    found.add(other)
                    left.append(other)
    return found


class Worlds(Case):
    def test_by_hand(self):
        self.same(need_history(PAIR, HISTORY), HISTORY)
        self.same(need_history(PAIR, as_lists(HISTORY)), HISTORY)
        self.same(worlds_along(PAIR, HISTORY), WORLDS)
        self.same(world_behind(PAIR, as_lists(HISTORY)), WORLDS[-1])
        self.same(outcomes(PAIR, HISTORY), DONE)
        self.same(all_done(PAIR, HISTORY), False)
        self.same(all_done(PAIR, (HISTORY[0], HISTORY[1][:1])), True)
        self.same(all_done(PAIR, (HISTORY[0], HISTORY[1][4:5])), False)
        self.same(need_history(desk=PAIR, value=HISTORY), HISTORY)
        self.same(worlds_along(desk=PAIR, history=HISTORY), WORLDS)
        self.same(world_behind(desk=PAIR, history=HISTORY), WORLDS[-1])
        self.same(outcomes(desk=PAIR, history=HISTORY), DONE)
        self.same(all_done(desk=PAIR, history=HISTORY), False)

    def test_without_tries_or_things(self):
        for history in (((), ()), [[], []], ((0, 1), ())):
            many = len(history[0])
            self.same(need_history(PAIR, history), (tuple(history[0]), ()))
            self.same(worlds_along(PAIR, history), ((0,) * many,))
            self.same(world_behind(PAIR, history), (0,) * many)
            self.same(outcomes(PAIR, history), ())
            self.same(all_done(PAIR, history), True)
            self.same(thing_rows(PAIR, history), ((),) * many)
            self.same(normal_history(PAIR, history), (tuple(history[0]), ()))
            self.same(alike_count(PAIR, history), 1)

    def test_tried(self):
        world = [1, 1, 0]
        self.same(tried(PAIR, world, [0, [0, 1]]), ((2, 0, 0), True))
        self.same(tried(PAIR, world, (0, (2, 1))), ((1, 1, 0), False))
        self.same(tried(PAIR, (2, 0, 2), (2, (2, 0))), ((2, 0, 2), True))
        self.same(tried(PAIR, (0, 0, 1), (2, (2, 0))), ((1, 0, 0), True))
        self.same(tried(desk=PAIR, world=world, one=(2, (0, 2))), ((0, 1, 1), True))
        self.assertEqual(world, [1, 1, 0])

    def test_against_playing_again(self):
        rng = self.rng(1)
        for _ in range(400):
            desk = random_desk(rng, roles=3, tools=5)
            history = random_history(rng, desk, 13, 14)
            worlds, done = played(desk, history)
            self.same(worlds_along(desk, history), worlds)
            self.same(world_behind(desk, history), worlds[-1])
            self.same(outcomes(desk, history), done)
            self.same(all_done(desk, history), False not in done)
            for one, ahead, behind, was in zip(history[1], worlds, worlds[1:], done):
                self.same(tried(desk, ahead, one), (behind, was))


class WrongHistories(Case):
    CALLS = (need_history, worlds_along, world_behind, outcomes, all_done, thing_rows, normal_history, alike_count)

    def wrong(self, at, value, desk=PAIR):
        for call in self.CALLS:
            self.fails(InvalidHistory, at, call, desk, value)
        self.fails(InvalidHistory, at, alike_histories, desk, value, None)
        self.fails(InvalidHistory, at, alike_histories, desk, HISTORY, value)

    def test_the_whole(self):
        for value in (None, 3, "ab", (), ((),), ((), (), ()), [(), None], (None, ()), ("", ()), ((), ""), MAIL, nested(12),
                      ((2,), ()), ((-1,), ()), ((True,), ()), ((0, None), ()), (("a",), ()), ((0, (0,)), ()), ((0, MAIL), ())):
            self.wrong(-1, value)
        self.wrong(-1, ((0, 2), (None,)))

    def test_the_first_wrong_try(self):
        bad = [None, 0, "00", (), (0,), (1, (0,), ()), (3, (0,)), (-1, (0,)), (True, (0,)), ("1", (0,)), (1, 0), (1, None),
               (1, "0"), (1, ()), (1, (0, 2)), (1, (1,)), (1, (3,)), (1, (-1,)), (1, (True,)), (1, (None,)), (1, ((0,),)),
               (0, (0,)), (0, (1, 0)), (2, (0, 0)), (2, (0, 1)), (0, (0, 1, 2)), MAIL, (1, MAIL), nested(11)]
        for value in bad:
            self.wrong(1, ((0, 1, 0), ((0, (0, 1)), value)))
            self.wrong(1, [[0, 1, 0], [[0, [0, 1]], value, None]])
            self.wrong(0, [[0, 1, 0], (value, value)])

    def test_any_value_and_spoilt_histories(self):
        rng = self.rng(2)
        for value in odd_values():
            self.judged(PAIR, value)
            self.judged(PAIR, (value, ()))
            self.judged(PAIR, ((0, 1, 0), value))
            self.judged(PAIR, ((0, 1, 0), (value,)))
        for _ in range(4000):
            desk = random_desk(rng, roles=3)
            self.judged(desk, spoilt(rng, random_history(rng, desk)))

    def judged(self, desk, value):
        at = wrong_history(desk, value)
        if at is None:
            self.same(as_lists(need_history(desk, value)), as_lists(value))
            self.assertTrue(is_tuples(need_history(desk, value)))
        else:
            self.fails(InvalidHistory, at, need_history, desk, value)

    def test_arguments_stay(self):
        told = as_lists(HISTORY)
        for call in self.CALLS:
            call(PAIR, told)
            self.assertEqual(told, as_lists(HISTORY))


class Alike(Case):
    def test_thing_rows(self):
        tries = HISTORY[1]
        self.same(thing_rows(PAIR, as_lists(HISTORY)), (
            (tries[0], tries[4], tries[6]), (tries[0], tries[1], tries[3]), tries[1:],
        ))
        self.same(thing_rows(desk=PAIR, history=((0, 0), ((1, (1,)),))), ((), ((1, (1,)),)))

    def test_by_hand(self):
        one = ((0, 0), ((1, (1,)), (1, (0,)), (1, (1,))))
        two = ((0, 0), ((1, (0,)), (1, (1,)), (1, (1,))))
        three = ((0, 0), ((1, (0,)), (1, (1,)), (1, (0,))))
        self.same(alike_histories(PAIR, one, as_lists(two)), True)
        self.same(alike_histories(PAIR, one, three), False)
        self.same(alike_histories(PAIR, one, ((0, 0, 0), one[1])), False)
        self.same(alike_histories(PAIR, ((0, 1), ()), ((1, 0), ())), False)
        self.same(alike_histories(desk=PAIR, one=((0, 0), ((2, (0, 1)),)), other=((0, 0), ((2, (1, 0)),))), False)
        self.same(normal_history(PAIR, one), two)
        self.same(normal_history(desk=PAIR, history=as_lists(one)), two)
        self.same(alike_count(PAIR, one), 3)
        self.same(alike_count(desk=PAIR, history=HISTORY), 1)
        self.same(normal_history(PAIR, ((0, 0, 1), ((2, (1, 0)), (1, (0,)), (0, (1, 2))))),
                  ((0, 0, 1), ((2, (1, 0)), (0, (1, 2)), (1, (0,)))))

    def test_against_all_exchanges(self):
        rng = self.rng(3)
        for _ in range(250):
            desk = random_desk(rng, tools=3)
            history = random_history(rng, desk, 5, 6)
            alike = all_alike(history)
            self.same(alike_count(desk, history), len(alike))
            self.same(normal_history(desk, history), (history[0], min(alike)))
            for tries in alike:
                self.same(alike_histories(desk, history, (history[0], tries)), True)
                self.same(normal_history(desk, (history[0], tries)), (history[0], min(alike)))
            shuffled = list(history[1])
            rng.shuffle(shuffled)
            self.same(alike_histories(desk, history, (history[0], tuple(shuffled))), tuple(shuffled) in alike)
            less = history[1][:-1]
            self.same(alike_histories(desk, history, (history[0], less)), len(less) == len(history[1]))

    def test_theorem_alike_histories_come_out_alike(self):
        rng = self.rng(4)
        for _ in range(80):
            desk = random_desk(rng, tools=3)
            history = random_history(rng, desk, 5, 6)
            for tries in all_alike(history):
                other = (history[0], tries)
                self.same(thing_rows(desk, other), thing_rows(desk, history))
                self.same(world_behind(desk, other), world_behind(desk, history))
                self.same(outcomes_by_try(desk, other), outcomes_by_try(desk, history))

    def test_how_many_of_twelve_tries(self):
        twelve = ((0,) * 12, tuple((1, (thing,)) for thing in range(12)))
        self.same(alike_count(PAIR, twelve), math.factorial(12))
        self.same(alike_count(PAIR, ((0,), ((1, (0,)),) * 12)), 1)
        self.same(alike_count(PAIR, ((0,) * 3, tuple((1, (at % 3,)) for at in range(12)))), 34650)
        self.fails(InvalidSize, "tries", alike_count, PAIR, ((0,), ((1, (0,)),) * 13))
        self.fails(InvalidSize, "tries", alike_count, PAIR, ((0,) * 13, tuple((1, (thing,)) for thing in range(13))))
        self.fails(InvalidHistory, 13, alike_count, PAIR, ((0,), ((1, (0,)),) * 13 + (None,)))


def outcomes_by_try(desk, history):
    found = {}
    for one, done in zip(history[1], outcomes(desk, history)):
        found.setdefault(one, []).append(done)
    return [(one, found[one]) for one in sorted(found)]


class Interleaved(Case):
    ROWS = (((1, (0,)), (0, (0, 1))), ((1, (2,)),), ())

    def test_by_hand(self):
        want = ((0, 1, 0), ((1, (0,)), (1, (2,)), (0, (0, 1))))
        self.same(interleaved(PAIR, (0, 1, 0), self.ROWS, (0, 1, 0)), want)
        self.same(interleaved(PAIR, [0, 1, 0], as_lists(self.ROWS), [0, 1, 0]), want)
        self.same(interleaved(desk=PAIR, things=(0, 1, 0), rows=self.ROWS, turns=(1,)), ((0, 1, 0), ((1, (2,)),)))
        self.same(interleaved(PAIR, (0, 1, 0), self.ROWS, ()), ((0, 1, 0), ()))
        self.same(interleaved(PAIR, (), (), []), ((), ()))

    def test_wrong_turns(self):
        for value in (None, True, 3, "01", MAIL, {}):
            self.fails(InvalidHistory, -1, interleaved, PAIR, (0, 1, 0), self.ROWS, value)
        for value in odd_values() + [3, 2, MAIL]:
            if type(value) is int and value in (0, 1):
                continue
            self.fails(InvalidHistory, 1, interleaved, PAIR, (0, 1, 0), self.ROWS, (0, value))
            self.fails(InvalidHistory, 1, interleaved, PAIR, (0, 1, 0), self.ROWS, [0, value, None])
        self.fails(InvalidHistory, 2, interleaved, PAIR, (0, 1, 0), self.ROWS, (1, 0, 1, 9))
        self.fails(InvalidHistory, 2, interleaved, PAIR, (0, 1, 0), self.ROWS, (0, 0, 0))
        self.fails(InvalidHistory, 0, interleaved, PAIR, (0, 1, 0), self.ROWS, (2,))
        self.fails(InvalidHistory, 0, interleaved, PAIR, (0, 1, 0), (), (0,))

    def test_all_ways(self):
        rng = self.rng(5)
        for _ in range(200):
            desk = random_desk(rng)
            things = random_things(rng, desk, 4)
            rows = []
            for _ in range(rng.randint(1, 3)):
                row = [random_try(rng, desk, things) for _ in range(rng.randint(0, 4))]
                rows.append(tuple(one for one in row if one is not None))
            turns = [agent for agent, row in enumerate(rows) for _ in row]
            rng.shuffle(turns)
            turns = turns[:rng.randint(0, len(turns))]
            found = interleaved(desk, things, rows, turns)
            self.same(found[0], things)
            self.same(len(found[1]), len(turns))
            for agent, row in enumerate(rows):
                own = tuple(one for one, turn in zip(found[1], turns) if turn == agent)
                self.same(own, row[:len(own)])

    def test_arguments_stay(self):
        rows, turns = as_lists(self.ROWS), [0, 1]
        interleaved(PAIR, [0, 1, 0], rows, turns)
        self.assertEqual((rows, turns), (as_lists(self.ROWS), [0, 1]))


class Copies(Case):
    def test_a_copy_needs_two_things(self):
        self.same(worlds_along(COPY, ((0, 0), ((0, (0,)), (1, (0, 1)), (1, (0, 1))))), ((0, 0), (1, 0), (1, 1), (1, 1)))


if __name__ == "__main__":
    unittest.main()
