"""[24], [25]: nets, and how histories and runs of moves tell one another."""

import collections
import itertools
import unittest

from lateno.desks import Desk
from lateno.errors import InvalidHistory, InvalidMoves, InvalidPlan, InvalidSize
from lateno.nets import history_of, net_led, net_moves, net_steps, run_of
from lateno.plans import both_plan, columns_of, heap_of, no_plan, row_plan, stands_of
from lateno.reach import ready, what_comes
from plan_samples import random_case, random_plan
from samples import COPY, LOCK, MAIL, Case, as_lists, is_tuples, nested, no_bools, odd_values, random_desk, spoilt

FIRST = ((), ())
LOCKED = ((0,), ((0, (0,)), (1, (0,)), (2, (0,))), (1, 0))
RUN = ((0, ((0, 0, 0, 0, 0),), 1), (1, ((1, 1, 0, 0, 0),), 0), (2, ((0, 1, 0, 0, 0),), -1))
# 3 of a never comes; near needs a thing apart beside an equal one
PAIR = Desk(
    (("a", 4), ("b", 2)),
    (("set", (0,), (((0,), (1,)), ((1,), (2,)))), ("near", (0, 1), (((1, 0), (1, 1)), ((2, 1), (0, 0)), ((3, 0), (0, 0))))),
    (),
)


def fitting(plan, told, done):
    """All rows of these states that fit, told again."""
    found = []
    for row in itertools.product(told, repeat=len(plan[1]) + 1):
        if all(strike in done or row[j + 1] == row[parent] for j, (parent, strike) in enumerate(plan[1])):
            found.append(row)
    return found


def moves_again(desk, plan, done):
    """All moves behind these strikes, told again."""
    told, found = what_comes(desk), []
    for tool, (_, roles, rows) in enumerate(desk.tools):
        befores = [before for before, _ in rows]
        for lot in itertools.product(*[fitting(plan, told[kind], done) for kind in roles]):
            if tuple(row[0] for row in lot) not in befores:
                continue
            if any(len(set(row)) > 1 for row in lot):
                found.append((tool, lot, -1))
            found.extend((tool, lot, i) for i, one in enumerate(plan[0]) if one == tool and i not in done)
    return tuple(sorted(found))


def led_again(desk, plan, standing, move):
    """The standing behind a move, None if it can't be done; told again."""
    done, heap = standing
    tool, rows, strike = move
    _, roles, told = desk.tools[tool]
    takes = collections.Counter((kind, row) for kind, row in zip(roles, rows) if len(set(row)) > 1)
    have = collections.Counter(heap)
    if takes - have:
        return None
    stands, turned = [True], [dict(told)[tuple(row[0] for row in rows)]]
    for j, (parent, other) in enumerate(plan[1]):
        before = tuple(row[j + 1] for row in rows)
        stands.append(stands[parent] and other != strike and before in dict(told))
        turned.append(dict(told)[before] if stands[-1] else before)
    have -= takes
    have.update((kind, row) for kind, row in zip(roles, zip(*turned)) if len(set(row)) > 1)
    return (tuple(sorted(set(done) | {strike} - {-1})), tuple(sorted(have.elements())))


def net_size(desk, plan):
    told, total = what_comes(desk), 0
    for _, roles, _ in desk.tools:
        many = 1
        for kind in roles:
            many *= len(told[kind]) ** (len(plan[1]) + 1)
        total += many
    return total


def random_net(rng, strikes=3, columns=3):
    """(desk, plan) whose net is not too large."""
    while True:
        desk = random_desk(rng, tools=3)
        plan = random_plan(rng, desk, strikes, columns)
        if plan is not None and net_size(desk, plan) <= 3000:
            return desk, plan


def random_run(rng, desk, plan, most=8):
    """(moves done one behind another from the first standing, the standing behind them)."""
    standing, moves = FIRST, []
    for _ in range(rng.randint(0, most)):
        told = net_steps(desk, plan, standing)
        if not told:
            break
        move, standing = rng.choice(told)
        moves.append(move)
    return tuple(moves), standing


def finished(rng, desk, plan, moves, standing):
    """The moves with one for each strike that has not come."""
    for strike in range(len(plan[0])):
        if strike not in standing[0]:
            told = [one for one in net_steps(desk, plan, standing) if one[0][2] == strike]
            move, standing = rng.choice(told)
            moves += (move,)
    return moves, standing


class Moves(Case):
    def test_by_hand(self):
        plan = no_plan(0)
        self.same(net_moves(MAIL, plan, ()), ((0, ((0, 0),), 0),))
        self.same(net_moves(MAIL, plan, [0]), ((0, ((0, 1),), -1), (0, ((0, 2),), -1), (1, ((1, 0),), -1), (1, ((1, 2),), -1)))
        self.same(net_moves(desk=MAIL, plan=as_lists(plan), done=()), ((0, ((0, 0),), 0),))
        self.same(net_moves(COPY, row_plan((0, 0)), (0,))[:3],
                  ((0, ((0, 0, 0),), 1), (0, ((0, 1, 1),), -1), (0, ((0, 1, 1),), 1)))

    def test_against_telling_again(self):
        rng = self.rng(1)
        for _ in range(60):
            desk, plan = random_net(rng)
            for many in range(len(plan[0]) + 1):
                for done in itertools.combinations(range(len(plan[0])), many):
                    found = net_moves(desk, plan, done)
                    self.same(found, moves_again(desk, plan, done))

    def test_only_states_that_come(self):
        for done in ((), (0,)):
            for _, rows, _ in net_moves(PAIR, no_plan(0), done):
                self.assertNotIn(3, [state for row in rows for state in row])


class Steps(Case):
    def test_by_hand(self):
        plan = no_plan(0)
        self.same(net_steps(MAIL, plan, FIRST), (((0, ((0, 0),), 0), ((0,), ((0, (1, 0)),))),))
        self.same(net_steps(MAIL, plan, [[0], [[0, [1, 0]]]]), (((1, ((1, 0),), -1), ((0,), ((0, (2, 0)),))),))
        self.same(net_steps(desk=MAIL, plan=plan, standing=((0,), ((0, (2, 0)),))), ())
        again = (((0, ((0, 2),), -1), ((0,), ((0, (1, 2)), (0, (1, 2))))),)
        self.same(net_steps(MAIL, plan, ((0,), ((0, (0, 2)), (0, (1, 2)))))[:1], again)

    def test_what_is_taken_is_counted(self):
        two = Desk((("a", 2),), (("on", (0,), (((0,), (1,)),)), ("both", (0, 0), (((1, 1), (0, 0)),))), ())
        plan = no_plan(0)
        one = ((0,), ((0, (1, 0)),))
        self.assertNotIn((1, ((1, 0), (1, 0)), -1), [move for move, _ in net_steps(two, plan, one)])
        twice = ((0,), ((0, (1, 0)), (0, (1, 0))))
        self.assertIn(((1, ((1, 0), (1, 0)), -1), ((0,), ())), net_steps(two, plan, twice))

    def test_against_telling_again(self):
        rng = self.rng(2)
        for _ in range(150):
            desk, plan = random_net(rng)
            moves, standing = random_run(rng, desk, plan)
            want = []
            for move in moves_again(desk, plan, standing[0]):
                behind = led_again(desk, plan, standing, move)
                if behind is not None:
                    want.append((move, behind))
            self.same(net_steps(desk, plan, standing), tuple(want))
            self.same(net_steps(desk, plan, as_lists(standing)), tuple(want))

    def test_more_serve(self):
        rng = self.rng(3)
        for _ in range(60):
            desk, plan = random_net(rng)
            _, standing = random_run(rng, desk, plan)
            kind = rng.randrange(len(desk.kinds))
            rows = [row for row in fitting(plan, what_comes(desk)[kind], standing[0]) if len(set(row)) > 1]
            if rows:
                more = (standing[0], tuple(sorted(standing[1] + ((kind, rng.choice(rows)),))))
                behind = dict(net_steps(desk, plan, more))
                for move, led in net_steps(desk, plan, standing):
                    self.assertEqual(behind[move][0], led[0])
                    self.assertFalse(collections.Counter(led[1]) - collections.Counter(behind[move][1]))


class Led(Case):
    def test_by_hand(self):
        plan = both_plan(1, 0)
        self.same(net_led(LOCK, plan, ()), FIRST)
        self.same(net_led(LOCK, plan, RUN), ((0, 1), ((0, (2, 1, 2, 0, 2)),)))
        self.same(net_led(desk=LOCK, plan=plan, moves=list(RUN[:1])), ((1,), ((0, (1, 1, 0, 0, 0)),)))

    def test_a_row_of_steps(self):
        rng = self.rng(4)
        for _ in range(100):
            desk, plan = random_net(rng)
            moves, standing = random_run(rng, desk, plan)
            self.same(net_led(desk, plan, moves), standing)
            self.same(net_led(desk, plan, list(moves)), standing)

    def test_no_sequence(self):
        for value in (None, 3, True, "ab", MAIL, {}):
            self.wrong(-1, value)

    def wrong(self, at, moves, desk=LOCK, plan=both_plan(1, 0)):
        for call in (net_led, history_of):
            self.fails(InvalidMoves, at, call, desk, plan, moves)

    def test_the_first_that_can_not_be_done(self):
        good = RUN[1]
        bad = [None, 0, "abc", (), good[:2], good + (0,), list(good), (1, list(good[1]), 0), (1, (list(good[1][0]),), 0),
               (True, good[1], 0), (1, good[1], False), (1, ((True, 1, 0, 0, 0),), 0), (1, good[1], 2), (1, good[1], 1),
               (1, good[1], -2), (1, good[1], None), (3, good[1], 0), (-1, good[1], 0), ("1", good[1], 0), (0, good[1], 0),
               (1, (), 0), (1, good[1] * 2, 0), (1, (good[1][0][:4],), 0), (1, (good[1][0] + (0,),), 0), (1, ((1, 1, 0, 0, 1),), 0),
               (1, ((1, 0, 0, 0, 0),), 0), (1, ((1, 1, 3, 3, 0),), 0), (1, ((1, 1, -1, -1, -1),), 0), (1, ((0, 0, 0, 0, 0),), 0),
               (1, ((2, 2, 0, 0, 0),), 0), (1, (None,), 0), (1, None, 0), (1, ((None,) * 5,), 0), (1, ("11000",), 0),
               (0, ((0, 0, 1, 1, 1),), -1), (0, ((0, 0, 0, 0, 0),), -1), (2, ((0, 0, 0, 0, 0),), -1), RUN[0], MAIL, (1, MAIL, 0),
               (1, (good[1],), 0), (1, ((1, 1, 0.0, 0, 0),), 0)]
        for value in bad:
            self.wrong(1, (RUN[0], value, RUN[2]))
            self.wrong(1, [RUN[0], value, None])
        self.wrong(0, (RUN[1],))
        self.wrong(2, (RUN[0], RUN[1], RUN[1], None))
        self.wrong(3, RUN + (RUN[2],))
        self.same(net_led(LOCK, both_plan(1, 0), (RUN[0], (1, good[1], -1))), ((1,), ()))

    def test_what_is_taken_must_be_there(self):
        plan = no_plan(0)
        sign = (0, ((0, 0),), 0)
        send = (1, ((1, 0),), -1)
        self.same(net_led(MAIL, plan, (sign, send)), ((0,), ((0, (2, 0)),)))
        self.wrong(2, (sign, send, send), MAIL, plan)
        self.wrong(0, (send,), MAIL, plan)

    def test_any_value_and_spoilt_moves(self):
        rng = self.rng(5)
        right = 0
        for value in odd_values():
            self.judged(LOCK, both_plan(1, 0), value)
            self.judged(LOCK, both_plan(1, 0), (RUN[0], value))
        for _ in range(1500):
            desk, plan = random_net(rng, 2, 2)
            moves, _ = random_run(rng, desk, plan, 4)
            right += self.judged(desk, plan, spoilt(rng, moves))
        self.assertGreater(right, 50)

    def judged(self, desk, plan, moves):
        if not isinstance(moves, (list, tuple)):
            self.wrong(-1, moves, desk, plan)
            return False
        standing = FIRST
        for at, move in enumerate(moves):
            legal = no_bools(move) and is_tuples(move) and move in moves_again(desk, plan, standing[0])
            behind = led_again(desk, plan, standing, move) if legal else None
            if behind is None:
                self.wrong(at, moves, desk, plan)
                return False
            standing = behind
        self.same(net_led(desk, plan, moves), standing)
        return True


class OneToOne(Case):
    def test_by_hand(self):
        plan = both_plan(1, 0)
        self.same(run_of(LOCK, plan, LOCKED), RUN)
        self.same(run_of(desk=LOCK, plan=as_lists(plan), history=as_lists(LOCKED)), RUN)
        self.same(run_of(LOCK, plan, history_of(desk=LOCK, plan=plan, moves=RUN)), RUN)
        history = ((0, 0), ((0, (1,)), (0, (0,)), (1, (1,)), (1, (0,))), (1,))
        self.same(run_of(MAIL, no_plan(0), history), ((0, ((0, 0),), 0), (1, ((1, 0),), -1)))
        self.same(run_of(COPY, no_plan(0), ((0, 0), ((0, (0,)), (1, (0, 1))), (0,))), ((0, ((0, 0),), 0), (1, ((1, 0), (0, 0)), -1)))

    def test_a_strike_in_no_column_is_a_move(self):
        plan = ((0, 1), ((0, 0),))
        history = ((0, 0), ((0, (0,)), (1, (0,)), (0, (1,))), (2, 1))
        self.same(run_of(MAIL, plan, history), ((1, ((1, 1),), 1), (0, ((0, 0),), 0)))
        self.same(net_led(MAIL, plan, run_of(MAIL, plan, history)), ((0, 1), ((0, (1, 0)),)))

    def test_runs_lead_to_the_heap(self):
        rng = self.rng(6)
        many = 0
        while many < 250:
            desk, plan, history = random_case(rng, columns=3)
            if net_size(desk, plan) > 3000:
                continue
            many += 1
            run = run_of(desk, plan, history)
            self.assertTrue(is_tuples(run))
            self.same(net_led(desk, plan, run), (tuple(range(len(plan[0]))), heap_of(desk, plan, history)))
            rows = [(0,) * (len(plan[1]) + 1)] * len(history[0])
            want = []
            for at, (tool, members) in enumerate(history[1]):
                ahead = tuple(rows[one] for one in members)
                strike = history[2].index(at) if at in history[2] else -1
                if strike >= 0 or any(len(set(row)) > 1 for row in ahead):
                    want.append((tool, ahead, strike))
                rows = columns_so_far(desk, plan, history, at + 1)
            self.same(run, tuple(want))

    def test_histories_of_runs(self):
        rng = self.rng(7)
        for _ in range(250):
            desk, plan = random_net(rng)
            moves, standing = random_run(rng, desk, plan)
            if len(standing[0]) < len(plan[0]):
                self.fails(InvalidMoves, len(moves), history_of, desk, plan, moves)
                self.fails(InvalidMoves, len(moves), history_of, desk, plan, list(moves))
                moves, standing = finished(rng, desk, plan, moves, standing)
            history = history_of(desk, plan, moves)
            self.assertTrue(is_tuples(history))
            self.same(run_of(desk, plan, history), moves)
            self.same(heap_of(desk, plan, history), standing[1])
            self.same(len(stands_of(desk, plan, history)), len(history[1]))
            self.same(history_of(desk, plan, list(moves)), history)

    def test_a_strike_that_is_missing(self):
        plan = both_plan(1, 0)
        self.fails(InvalidMoves, 0, history_of, LOCK, plan, ())
        self.fails(InvalidMoves, 1, history_of, LOCK, plan, RUN[:1])
        self.fails(InvalidMoves, 0, history_of, LOCK, plan, (None,))
        run_of(LOCK, plan, history_of(LOCK, plan, RUN[:2]))

    def test_many_things_are_no_fault(self):
        names, manys = "abcdef", (5, 5, 3, 3, 3, 3)
        tools = []
        for kind, many in enumerate(manys):
            tools.append(("up" + names[kind], (kind, kind), [((x, x), (x, x + 1)) for x in range(kind > 0, many - 1)]))
            if kind:
                last = manys[kind - 1] - 1
                tools.append(("on" + names[kind], (kind - 1, kind), [((last, 0), (last, 1))]))
        tools.append(("off", (5,), [((2,), (0,))]))
        desk = Desk(list(zip(names, manys)), tools, ())
        tool = len(tools) - 1
        plan = ((tool,) * 3, ((0, 0),))
        moves = tuple((tool, ((2, 2),), strike) for strike in range(3))
        self.fails(InvalidSize, "things", ready, desk, ((5, 2),) * 3)
        history = history_of(desk, plan, moves)
        self.assertGreater(len(history[0]), 4000)
        self.same(run_of(desk, plan, history), moves)


def columns_so_far(desk, plan, history, many):
    """The things' rows behind the first deeds; a strike that hasn't come has no column of its own yet."""
    deeds = list(history[1][:many])
    rows = [[0] * (len(plan[1]) + 1) for _ in history[0]]
    for at, (tool, members) in enumerate(deeds):
        told = dict(desk.tools[tool][2])
        stands = []
        for column in range(len(plan[1]) + 1):
            before = tuple(rows[one][column] for one in members)
            if column == 0:
                stands.append(True)
            else:
                parent, strike = plan[1][column - 1]
                stands.append(stands[parent] and history[2][strike] != at and before in told)
            if stands[-1]:
                for one, state in zip(members, told[before]):
                    rows[one][column] = state
    return [tuple(row) for row in rows]


class Errors(Case):
    CALLS = (net_moves, net_steps, net_led, run_of, history_of)

    def test_plans_come_first(self):
        big = Desk((("a", 6),), [("t", (0, 0), [((x, 0), (x + 1, 0)) for x in range(5)])], ())
        for call in self.CALLS:
            self.fails(InvalidPlan, ("plan", -1), call, big, None, None)
            self.fails(InvalidPlan, ("tools", 0), call, big, ((1,), ((0, 0),)), None)
            self.fails(InvalidPlan, ("columns", 2), call, big, ((0, 0), ((0, 0), (0, 1), (1, 0))), None)
            self.fails(InvalidPlan, ("columns", 0), call, big, ((0, 0), (None, (0, 1), (1, 1))), None)

    def test_just_three_thousand(self):
        on = [((x,), (x + 1,)) for x in range(5)]
        names = ["t" + letter for letter in "abcdefghijklmnopqrst"]
        both = [(name, (0, 0), []) for name in names[:2]]
        ones = [(name, (0,), on) for name in names[2:13]]
        small = [(name, (1,), [((0,), (1,))]) for name in names[13:16]]
        last = [("last", (2,), [])]
        kinds = (("a", 6), ("b", 2), ("c", 1))
        desk, large = Desk(kinds, both + ones + small, ()), Desk(kinds, both + ones + small + last, ())
        plan = no_plan(2)
        self.same((net_size(desk, plan), net_size(large, plan)), (3000, 3001))
        moves = net_moves(desk, plan, ())
        self.same(net_led(desk, plan, moves[:1])[0], (0,))
        history = ((0,), ((2, (0,)),), (0,))
        self.same(run_of(desk, plan, history), moves[:1])
        for call in self.CALLS:
            for value in (None, (), FIRST, history):
                self.fails(InvalidSize, "net", call, large, plan, value)
        for call in (columns_of, stands_of, heap_of):
            call(large, plan, history)

    def test_only_what_comes_counts(self):
        desk = Desk((("a", 6), ("b", 6)), [("t", (0, 1, 1), [((0, 0, 0), (1, 1, 0))]), ("u", (0,), [((1,), (0,))])], ())
        self.same(net_size(desk, row_plan((0, 0))), 520)
        net_moves(desk, row_plan((0, 0)), ())

    def test_wrong_histories(self):
        plan = both_plan(1, 0)
        self.fails(InvalidHistory, ("history", -1), run_of, LOCK, plan, None)
        self.fails(InvalidHistory, ("things", 0), run_of, LOCK, plan, ((1,), None, None))
        self.fails(InvalidHistory, ("deeds", 1), run_of, LOCK, plan, ((0,), ((0, (0,)), (0, (0,))), None))
        self.fails(InvalidHistory, ("struck", 0), run_of, LOCK, plan, ((0,), LOCKED[1], (0, 1)))
        self.fails(InvalidHistory, ("history", -1), run_of, LOCK, plan, nested(12))

    def test_arguments_stay(self):
        plan, history, done, moves = as_lists(both_plan(1, 0)), as_lists(LOCKED), [0], list(RUN)
        standing = as_lists(((0, 1), ((0, (2, 1, 2, 0, 2)), (0, (1, 1, 0, 0, 0)))))
        net_moves(LOCK, plan, done)
        net_steps(LOCK, plan, standing)
        run_of(LOCK, plan, history)
        net_led(LOCK, plan, moves)
        history_of(LOCK, plan, moves)
        self.assertEqual((plan, history, done, moves), (as_lists(both_plan(1, 0)), as_lists(LOCKED), [0], list(RUN)))
        self.assertEqual(standing, as_lists(((0, 1), ((0, (2, 1, 2, 0, 2)), (0, (1, 1, 0, 0, 0))))))


if __name__ == "__main__":
    unittest.main()
