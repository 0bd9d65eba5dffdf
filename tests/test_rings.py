"""[28], [29]: rings of plans whose price grows, papers of rings, histories that go round."""

import collections
import unittest

from lateno.desks import Desk
from lateno.errors import InvalidPlan, InvalidSize
from lateno.fallen import most_fallen
from lateno.forward import LIMITS
from lateno.nets import net_led, run_of
from lateno.plans import both_plan, heap_of, no_plan, row_plan
from lateno.prices import closed_lot, worst
from lateno.reach import what_comes
from lateno.rings import growing_ring, growing_ring_holds, ring_history
from lateno.walls import is_calm
from plan_samples import above, fitting, random_fear
from samples import COPY, LOCK, MAIL, Case, as_lists, is_tuples, no_bools, odd_values, spoilt
from table_samples import BOUGHT, COPIED, play
from test_nets import led_again
from test_prices import standings_again

SIGNED = (0, ((0, 0),), 0)
COPIES = (1, ((1, 0), (0, 0)), -1)


def is_move_again(desk, plan, done, value):
    """Whether any value is a move of the net behind these strikes, told again from [24]."""
    if type(value) is not tuple or len(value) != 3 or not is_tuples(value) or not no_bools(value):
        return False
    tool, rows, strike = value
    if type(tool) is not int or not 0 <= tool < len(desk.tools) or type(rows) is not tuple or len(rows) != len(desk.tools[tool][1]):
        return False
    comes = what_comes(desk)
    some_apart = False
    for kind, row in zip(desk.tools[tool][1], rows):
        if type(row) is not tuple or len(row) != len(plan[1]) + 1 or any(type(state) is not int or state not in comes[kind] for state in row):
            return False
        if len(set(row)) > 1:
            some_apart = True
            if (kind, row) not in fitting(plan, comes, done):
                return False
    if not play(desk, tool, [row[0] for row in rows])[1] or type(strike) is not int:
        return False
    if strike == -1:
        return some_apart
    return 0 <= strike < len(plan[0]) and plan[0][strike] == tool and strike not in done


def led_through(desk, plan, standing, moves):
    """The standing behind any value as a tuple of moves, None if it is none."""
    if type(moves) is not tuple:
        return None
    for move in moves:
        if not is_move_again(desk, plan, standing[0], move):
            return None
        standing = led_again(desk, plan, standing, move)
        if standing is None:
            return None
    return standing


def ring_again(desk, plan, value):
    """[29] told again for any value."""
    if type(value) is not tuple or len(value) != 2:
        return False
    ahead = led_through(desk, plan, ((), ()), value[0])
    behind = led_through(desk, plan, ahead, value[1]) if ahead is not None else None
    return behind is not None and behind != ahead and above(behind, ahead)


class ByHand(Case):
    def test_copies(self):
        ring = growing_ring(COPIED, no_plan(0))
        self.same(growing_ring_holds(COPIED, no_plan(0), ring), True)
        self.same(ring[0], (SIGNED,))
        self.same(growing_ring_holds(COPIED, no_plan(0), ((SIGNED,), (COPIES,))), True)
        self.same(growing_ring_holds(desk=COPIED, plan=no_plan(0), value=((SIGNED, COPIES), (COPIES, COPIES))), True)
        self.same(growing_ring(desk=BOUGHT, plan=no_plan(0)), None)
        self.same([growing_ring(MAIL, row_plan((0, 1))), growing_ring(LOCK, both_plan(0, 1))], [None, None])
        # a ring is told of what is bad, too
        self.same(worst(COPY, no_plan(0)), ("bad",))
        self.same(growing_ring_holds(COPY, no_plan(0), growing_ring(COPY, no_plan(0))), True)

    def test_what_is_no_ring(self):
        plan = no_plan(0)
        for value in ((), ((), ()), ((SIGNED,), ()), ((SIGNED,), (COPIES,), ()), ([SIGNED], (COPIES,)), ((SIGNED,), [COPIES]), [(SIGNED,), (COPIES,)],
                      ((SIGNED,), (list(COPIES),)), ((), (SIGNED,)), ((), (SIGNED, COPIES)), ((COPIES,), (COPIES,)), ((SIGNED,), (SIGNED,)),
                      ((SIGNED,), ((1, ((0, 0), (1, 0)), -1),)), ((SIGNED,), ((1, ((1, 0), (0, 0)), 0),)), ((SIGNED,), ((1, ((True, 0), (0, 0)), -1),)),
                      ((SIGNED,), ((1, [(1, 0), (0, 0)], -1),)), ((SIGNED,), ((1, ((1, 0), (0, 0)), -2),))):
            self.same(growing_ring_holds(COPIED, plan, value), False)
        for value in odd_values() + [(None, None), ((SIGNED,), None), (None, (COPIES,))]:
            self.same(growing_ring_holds(COPIED, plan, value), False)
            self.same(growing_ring_holds(MAIL, plan, value), False)

    def test_what_goes_on_without_more(self):
        # sent, the mail is apart in another way: unlike, and not held
        sent = (1, ((1, 0),), -1)
        self.same(net_led(BOUGHT, no_plan(0), (SIGNED, sent)), ((0,), ((0, (2, 0)),)))
        self.same(growing_ring_holds(BOUGHT, no_plan(0), ((SIGNED,), (sent,))), False)
        self.same(growing_ring_holds(BOUGHT, no_plan(0), ((), (SIGNED, sent))), False)

    def test_going_round(self):
        plan = no_plan(0)
        for times in range(5):
            history = ring_history(desk=COPIED, plan=plan, value=((SIGNED,), (COPIES,)), times=times)
            self.same(run_of(COPIED, plan, history), (SIGNED,) + (COPIES,) * times)
            self.same(heap_of(COPIED, plan, history), ((0, (1, 0)),) * (times + 1))

    def test_strikes_that_have_not_come_are_added(self):
        # the ring goes round with the first strike alone; the second comes behind it
        plan = row_plan((0, 0))
        first = (0, ((0, 0, 0),), 0)
        turn = (1, ((1, 0, 0), (0, 0, 0)), -1)
        self.same(growing_ring_holds(COPIED, plan, ((first,), (turn,))), True)
        history = ring_history(COPIED, plan, ((first,), (turn,)), 3)
        run = run_of(COPIED, plan, history)
        self.same(run[:4], (first, turn, turn, turn))
        self.same((len(run), run[4][0], run[4][2]), (5, 0, 1))
        self.same(len(heap_of(COPIED, plan, history)), 5)
        # only the second one has come in this ring
        other = ((0, ((0, 0, 0),), 1),)
        ring = (other, ((1, ((1, 1, 0), (0, 0, 0)), -1),))
        self.same(growing_ring_holds(COPIED, plan, ring), True)
        self.same([move[2] for move in run_of(COPIED, plan, ring_history(COPIED, plan, ring, 1))], [1, -1, 0])


class Told(Case):
    def test_against_telling_again(self):
        rng = self.rng(1)
        seen = collections.Counter()
        for _ in range(350):
            desk, plan, _ = random_fear(rng, rng.choice([100, 300, 1500]))
            try:
                ring, lot = growing_ring(desk, plan), closed_lot(desk, plan)
            except InvalidSize as error:
                self.same(error.word, "standings")
                self.assertIsNone(standings_again(desk, plan, 10, 400) and standings_again(desk, plan, 50, 2000))
                seen["standings"] += 1
                continue
            # there is a ring exactly if endlessly many standings come
            self.same(ring is None, lot is not None)
            seen[ring is None] += 1
            if ring is None:
                told = standings_again(desk, plan, 30, 600)
                if told is not None and told[1]:
                    seen["whole"] += 1
                    self.same(lot, tuple(sorted(told[0])))
                continue
            self.assertTrue(is_tuples(ring))
            self.same(ring_again(desk, plan, ring), True)
            self.same(growing_ring_holds(desk, plan, ring), True)
            if is_calm(desk, plan, None):
                self.same(worst(desk, plan), ("grows",))
                seen["grows"] += 1
            for times in (0, 1, 2, 4):
                history = ring_history(desk, plan, ring, times)
                told = ring[0] + ring[1] * times
                run = run_of(desk, plan, history)
                self.same(run[:len(told)], told)
                strikes = [move[2] for move in run if move[2] != -1]
                self.assertEqual(sorted(strikes), list(range(len(plan[0]))))
                self.assertEqual(len(run), len(told) + len(plan[0]) - len([move for move in told if move[2] != -1]))
                ahead = net_led(desk, plan, ring[0])[1]
                self.assertGreaterEqual(len(net_led(desk, plan, told)[1]), len(ahead) + times)
                self.assertGreaterEqual(len(heap_of(desk, plan, history)), len(ahead) + times)
        self.assertGreater(min(seen[key] for key in (True, False, "grows", "whole")), 20)

    def test_spoilt_rings(self):
        rng = self.rng(2)
        seen = {True: 0, False: 0}
        while min(seen.values()) < 60:
            desk, plan, _ = random_fear(rng, 200)
            try:
                ring = growing_ring(desk, plan)
            except InvalidSize:
                continue
            if ring is None:
                continue
            first, turn = ring
            values = [spoilt(rng, ring) for _ in range(10)] + [(first + turn, turn), (first, turn + turn), (first, turn[1:]), (first[1:], turn),
                                                              (first, turn[::-1]), (first + turn[:1], turn[1:] + turn[:1]), as_lists(ring)]
            for value in values:
                want = ring_again(desk, plan, value)
                self.same(growing_ring_holds(desk, plan, value), want)
                seen[want] += 1


class Errors(Case):
    def test_plans_then_nets(self):
        large = Desk((("a", 4),), (("up", (0, 0), (((0, 0), (1, 2)), ((1, 1), (2, 3)), ((1, 2), (3, 3)))),), ())
        for call, rest in ((growing_ring, ()), (growing_ring_holds, (None,)), (ring_history, (((), ()), 1))):
            self.fails(InvalidPlan, ("plan", -1), call, MAIL, None, *rest)
            self.fails(InvalidPlan, ("tools", -1), call, MAIL, ((), ()), *rest)
            self.fails(InvalidPlan, ("tools", 0), call, MAIL, no_plan(2), *rest)
            self.fails(InvalidPlan, ("columns", 1), call, MAIL, ((0,), ((0, 0), (1, 0))), *rest)
            self.fails(InvalidPlan, ("tools", 1), call, large, row_plan((0, 1)), *rest)
            self.fails(InvalidSize, "net", call, large, row_plan((0, 0)), *rest)

    def test_too_many_standings(self):
        rows = [((x, 0), (x + 1, 1)) for x in range(1, 5)]
        ups = [((y,), (y + 1,)) for y in range(1, 4)]
        desk = Desk((("a", 6), ("b", 5), ("c", 5), ("d", 5)), (
            ("set", (0,), (((0,), (1,)),)), ("markb", (0, 1), rows), ("markc", (0, 2), rows), ("markd", (0, 3), rows),
            ("upb", (1,), ups), ("upc", (2,), ups), ("upd", (3,), ups),
        ), ())
        self.assertIsNone(standings_again(desk, no_plan(0), 10, 400))
        self.fails(InvalidSize, "standings", growing_ring, desk, no_plan(0))
        self.same(growing_ring_holds(desk, no_plan(0), ((), ())), False)

    def test_many_standings_that_come_late(self):
        # at most 400 come by ten moves, more by eleven: that is not too many
        self.same(LIMITS, ((10, 400), (50, 2000)))
        for many, kinds, top in ((4, 2, 5), (3, 3, 4)):
            rows = [((x, 0), (x + 1, 1)) for x in range(1, many + 1)]
            ups = [((y,), (y + 1,)) for y in range(1, top)]
            tools = [("set", (0,), (((0,), (1,)),))]
            for at in range(kinds):
                tools += [("mark" + "bcd"[at], (0, at + 1), rows), ("up" + "bcd"[at], (at + 1,), ups)]
            repairs = [(0, x, 0, 1) for x in range(1, 6)] + [(kind, y, 0, 1) for kind in range(1, kinds + 1) for y in range(1, 6)]
            desk = Desk([("a", 6)] + [("bcd"[at], 6) for at in range(kinds)], tools, repairs)
            told = [standings_again(desk, no_plan(0), moves, 2000) for moves in (10, 11, 50)]
            self.assertLessEqual(len(told[0][0]), 400)
            self.assertGreater(len(told[1][0]), 400)
            self.same(closed_lot(desk, no_plan(0)), tuple(sorted(told[2][0])))
            self.same(growing_ring(desk, no_plan(0)), None)
            self.same(worst(desk, no_plan(0)), ("most", many + 1))
            self.same(most_fallen(desk, 0), many * top)


if __name__ == "__main__":
    unittest.main()
