"""[23], and heaps as [24] describes them."""

import unittest

from lateno.desks import Desk
from lateno.errors import InvalidHistory, InvalidPlan
from lateno.plans import both_plan, columns_of, heap_of, no_plan, row_plan, stands_of
from lateno.worlds import all_done, outcomes, world_behind
from plan_samples import possible_tools, random_case
from samples import LOCK, MAIL, Case, as_lists, is_tuples, nested, odd_values, spoilt

CALLS = (columns_of, stands_of, heap_of)
LOCKED = ((0,), ((0, (0,)), (1, (0,)), (2, (0,))), (1, 0))
# hand: a to b where b is 0; idle can't ever be done, its row is of a state that doesn't come
HAND = Desk(
    (("a", 3), ("b", 2)),
    (
        ("hand", (0, 1), (((0, 0), (1, 1)), ((1, 1), (2, 0)))),
        ("idle", (0,), ()),
        ("clear", (1,), (((1,), (0,)),)),
        ("far", (1, 0), (((0, 0), (1, 1)),)),
    ),
    (),
)


def seq(value, many=None):
    return type(value) in (list, tuple) and (many is None or len(value) == many)


def wrong_plan(desk, plan):
    """Told again: the place of the first fault of a plan, None for a right one."""
    if not seq(plan, 2):
        return ("plan", -1)
    tools, columns = plan
    if not seq(tools) or len(tools) not in (1, 2, 3):
        return ("tools", -1)
    for i, tool in enumerate(tools):
        if type(tool) is not int or tool not in possible_tools(desk):
            return ("tools", i)
    if not seq(columns) or len(columns) not in (1, 2, 3, 4):
        return ("columns", -1)
    for j, pair in enumerate(columns):
        if not seq(pair, 2) or any(type(one) is not int for one in pair):
            return ("columns", j)
        parent, strike = pair
        if parent not in range(j + 1) or strike not in range(len(tools)):
            return ("columns", j)
        while parent > 0:
            if columns[parent - 1][1] == strike:
                return ("columns", j)
            parent = columns[parent - 1][0]
    return None


def wrong_deeds(desk, things, deeds):
    world = [0] * len(things)
    for i, deed in enumerate(deeds):
        if not seq(deed, 2) or type(deed[0]) is not int or deed[0] not in range(len(desk.tools)) or not seq(deed[1]):
            return i
        tool, members = deed
        if any(type(one) is not int or one not in range(len(things)) for one in members):
            return i
        if len(set(members)) < len(members) or [things[one] for one in members] != list(desk.tools[tool][1]):
            return i
        rows = dict(desk.tools[tool][2])
        before = tuple(world[one] for one in members)
        if before not in rows:
            return i
        for one, state in zip(members, rows[before]):
            world[one] = state
    return None


def wrong_history(desk, plan, history):
    """Told again: the place of the first fault of a history for a plan, None for a right one."""
    if not seq(history, 3):
        return ("history", -1)
    things, deeds, struck = history
    if not seq(things):
        return ("things", -1)
    for i, kind in enumerate(things):
        if type(kind) is not int or kind not in range(len(desk.kinds)):
            return ("things", i)
    if not seq(deeds):
        return ("deeds", -1)
    at = wrong_deeds(desk, things, deeds)
    if at is not None:
        return ("deeds", at)
    if not seq(struck, len(plan[0])):
        return ("struck", -1)
    for i, number in enumerate(struck):
        if type(number) is not int or number not in range(len(deeds)) or number in struck[:i]:
            return ("struck", i)
        if deeds[number][0] != plan[0][i]:
            return ("struck", i)
    return None


def columns_again(desk, plan, history):
    """(the columns' worlds, for each column which deeds stand), told again column by column."""
    things, deeds, struck = history
    worlds, stood = [world_behind(desk, (things, deeds))], [[True] * len(deeds)]
    for parent, strike in plan[1]:
        world, own = [0] * len(things), []
        for number, (tool, members) in enumerate(deeds):
            rows = dict(desk.tools[tool][2])
            before = tuple(world[one] for one in members)
            own.append(stood[parent][number] and number != struck[strike] and before in rows)
            if own[-1]:
                for one, state in zip(members, rows[before]):
                    world[one] = state
        worlds.append(tuple(world))
        stood.append(own)
    return worlds, stood


class ToldPlans(Case):
    def test_the_three(self):
        self.same(no_plan(3), ((3,), ((0, 0),)))
        self.same(no_plan(tool=0), ((0,), ((0, 0),)))
        self.same(row_plan((4, 1, 1)), ((4, 1, 1), ((0, 0), (1, 1), (2, 2))))
        self.same(row_plan([2]), ((2,), ((0, 0),)))
        self.same(row_plan(tools=(5, 6)), ((5, 6), ((0, 0), (1, 1))))
        self.same(both_plan(2, 5), ((2, 5), ((0, 0), (0, 1), (1, 1), (2, 0))))
        self.same(both_plan(other=2, one=5), ((5, 2), ((0, 0), (0, 1), (1, 1), (2, 0))))

    def test_they_look_at_nothing(self):
        self.same(no_plan(-1), ((-1,), ((0, 0),)))
        self.same(no_plan(None), ((None,), ((0, 0),)))
        self.same(row_plan(("a", True, 3, 4, 5)), (("a", True, 3, 4, 5), ((0, 0), (1, 1), (2, 2), (3, 3), (4, 4))))
        self.same(row_plan([]), ((), ()))
        self.same(both_plan(None, True), ((None, True), ((0, 0), (0, 1), (1, 1), (2, 0))))


class Columns(Case):
    def test_two_orders_by_hand(self):
        plan = both_plan(1, 0)
        self.same(columns_of(LOCK, plan, LOCKED), ((2, 1, 2, 0, 2),))
        self.same(heap_of(LOCK, plan, LOCKED), ((0, (2, 1, 2, 0, 2)),))
        self.same(stands_of(LOCK, plan, LOCKED), (
            (True, True, False, False, False),
            (True, False, False, False, False),
            (True, False, True, False, True),
        ))
        for call in CALLS:
            self.same(call(LOCK, as_lists(plan), as_lists(LOCKED)), call(LOCK, plan, LOCKED))
            self.same(call(desk=LOCK, plan=plan, history=LOCKED), call(LOCK, plan, LOCKED))

    def test_one_no_by_hand(self):
        history = ((0, 1, 0), ((0, (0, 1)), (2, (1,)), (0, (2, 1)), (0, (0, 1))), (0,))
        plan = no_plan(0)
        self.same(columns_of(HAND, plan, history), ((2, 0), (0, 1), (1, 1)))
        self.same(stands_of(HAND, plan, history), ((True, False), (True, False), (True, True), (True, False)))
        self.same(heap_of(HAND, plan, history), ((0, (2, 0)), (1, (0, 1))))

    def test_a_heap_tells_each_sort_as_often_as_it_is_there(self):
        history = ((0,) * 3, ((0, (2,)), (0, (0,)), (0, (1,)), (1, (1,))), (1, 0))
        plan = row_plan((0, 0))
        self.same(heap_of(MAIL, plan, history), ((0, (1, 0, 0)), (0, (1, 1, 0))))
        plan = ((0, 0), ((0, 0), (0, 1)))
        self.same(heap_of(MAIL, plan, ((0,) * 3, ((0, (2,)), (0, (0,)), (0, (1,)), (1, (1,))), (2, 0))),
                  ((0, (1, 1, 0)), (0, (2, 0, 2))))
        three = (no_plan(0)[0], ((0, 0),))
        copy = Desk((("m", 2),), (("sign", (0,), (((0,), (1,)),)), ("copy", (0, 0), (((1, 0), (1, 1)),))), ())
        self.same(heap_of(copy, three, ((0,) * 4, ((0, (3,)), (1, (3, 1)), (1, (1, 0))), (0,))), ((0, (1, 0)),) * 3)

    def test_a_strike_in_no_column(self):
        plan = ((0, 1), ((0, 0),))
        history = ((0,), ((0, (0,)), (1, (0,))), (0, 1))
        self.same(columns_of(MAIL, plan, history), ((2, 0),))
        self.same(stands_of(MAIL, plan, history), ((True, False), (True, False)))
        self.same(stands_of(MAIL, ((0, 1), ((0, 1),)), history), ((True, True), (True, False)))

    def test_against_telling_again(self):
        rng = self.rng(1)
        for _ in range(400):
            desk, plan, history = random_case(rng, kinds=3, states=4)
            worlds, stood = columns_again(desk, plan, history)
            self.same(columns_of(desk, plan, history), tuple(zip(*worlds)))
            self.same(stands_of(desk, plan, history), tuple(zip(*stood)))
            rows = zip(history[0], zip(*worlds))
            self.same(heap_of(desk, plan, history), tuple(sorted(one for one in rows if len(set(one[1])) > 1)))

    def test_each_column_is_the_world_of_a_history(self):
        rng = self.rng(2)
        for _ in range(200):
            desk, plan, history = random_case(rng)
            stands, columns = stands_of(desk, plan, history), columns_of(desk, plan, history)
            for column in range(len(plan[1]) + 1):
                own = (history[0], tuple(deed for deed, row in zip(history[1], stands) if row[column]))
                self.assertTrue(all_done(desk, own))
                self.same(world_behind(desk, own), tuple(row[column] for row in columns))
            self.assertTrue(all(outcomes(desk, history[:2])))


class WrongPlans(Case):
    PLAN = ((0, 2), ((0, 0), (1, 1)))

    def wrong(self, at, plan, desk=HAND):
        for call in CALLS:
            self.fails(InvalidPlan, at, call, desk, plan, None)

    def test_each_place(self):
        for plan in (None, 3, True, "ab", (), ((0,),), (None, None, None), MAIL, nested(12)):
            self.wrong(("plan", -1), plan)
        for tools in (None, 3, "0", (), [], (0, 0, 0, 0), MAIL):
            self.wrong(("tools", -1), (tools, None))
            self.wrong(("tools", -1), [tools, ((0, 0),)])
        for tool in (None, True, False, -1, 4, 1, "0", (0,), MAIL):
            self.wrong(("tools", 1), ((0, tool, tool), None))
            self.wrong(("tools", 0), [[tool], [[0, 0]]])
        for columns in (None, 3, "ab", (), [], ((0, 0),) * 5, MAIL):
            self.wrong(("columns", -1), ((0, 2), columns))
        for pair in (None, 0, "00", (), (0,), (0, 0, 0), (2, 0), (-1, 0), (True, 0), (0, 2), (0, -1), (0, True), (0, None),
                     ("0", 0), (1, 0), MAIL):
            self.wrong(("columns", 1), ((0, 2), ((0, 0), pair, pair)))
            self.wrong(("columns", 1), [[0, 2], [[0, 0], pair]])
        self.wrong(("columns", 0), ((0, 2), ((1, 0),)))
        self.wrong(("columns", 2), ((0, 2), ((0, 0), (1, 1), (2, 0))))
        self.wrong(("columns", 3), ((0, 0, 2), ((0, 0), (0, 1), (2, 2), (3, 1))))

    def test_no_tool_is_possible_whose_befores_do_not_come(self):
        desk = Desk((("a", 3), ("b", 2)), (
            ("never", (0,), (((2,), (0,)),)), ("half", (0, 0), (((0, 2), (1, 1)),)), ("can", (0,), (((0,), (0,)), ((2,), (1,)))),
            ("also", (1,), (((1,), (1,)), )), ("last", (0, 1), (((0, 1), (0, 0)), ((2, 0), (0, 0)))),
        ), ())
        for tool in (0, 1, 3, 4):
            self.wrong(("tools", 0), no_plan(tool), desk)
        self.same(columns_of(desk, no_plan(2), ((0,), ((2, (0,)),), (0,))), ((0, 0),))

    def test_any_value_and_spoilt_plans(self):
        rng = self.rng(3)
        for value in odd_values():
            self.judged(HAND, value, None)
            self.judged(HAND, (value, ((0, 0),)), None)
            self.judged(HAND, ((0,), value), None)
        for _ in range(3000):
            desk, plan, history = random_case(rng)
            self.judged(desk, spoilt(rng, plan), history)

    def judged(self, desk, plan, history):
        at = wrong_plan(desk, plan)
        if at is not None:
            self.wrong(at, plan, desk)
        else:
            at = wrong_history(desk, plan, history)
            if at is not None:
                self.fails(InvalidHistory, at, columns_of, desk, plan, history)
            else:
                self.assertTrue(is_tuples(columns_of(desk, plan, history)))


class WrongPlanHistories(Case):
    def wrong(self, at, history, desk=HAND, plan=((0, 2), ((0, 0),))):
        for call in CALLS:
            self.fails(InvalidHistory, at, call, desk, plan, history)
            self.fails(InvalidHistory, at, call, desk, as_lists(plan), history)

    def test_each_place(self):
        good = ((0, (0, 1)), (2, (1,)))
        for history in (None, 3, "abc", (), ((), ()), ((), (), (), ()), MAIL, nested(12)):
            self.wrong(("history", -1), history)
        for things in (None, 3, "00", MAIL):
            self.wrong(("things", -1), (things, None, None))
        for kind in (None, True, 2, -1, "0", (0,), MAIL):
            self.wrong(("things", 2), ((0, 1, kind, kind), None, None))
        for deeds in (None, 3, "00", MAIL):
            self.wrong(("deeds", -1), ((0, 1), deeds, None))
        bad = [None, 0, "00", (), (0,), (2, (1,), ()), (4, (0,)), (-1, (0,)), (False, (0, 1)), ("0", (0, 1)), (2, 1), (2, "1"),
               (2, ()), (2, (0,)), (2, (3,)), (2, (-1,)), (2, (True,)), (2, (1, 1)), (0, (1, 0)), (0, (0, 0)), (1, (0,)),
               (0, (2, 1)), (3, (1, 2)), MAIL, (2, MAIL)]
        for deed in bad:
            self.wrong(("deeds", 1), ((0, 1, 0), (good[0], deed, None), None))
            self.wrong(("deeds", 1), [[0, 1, 0], [good[0], deed], None])
        self.wrong(("deeds", 0), ((0, 1, 0), ((2, (1,)),), None))
        self.wrong(("deeds", 2), ((0, 1), (good[0], good[1], good[1]), (0, 1)))
        for struck in (None, 3, "01", (), (0,), (0, 1, 1), MAIL):
            self.wrong(("struck", -1), ((0, 1), good, struck))
        for number in (None, True, "1", 2, -1, 0, (1,), MAIL):
            self.wrong(("struck", 1), ((0, 1), good, (0, number)))
        for number in (None, False, "0", 2, -1, 1, (0,), MAIL):
            self.wrong(("struck", 0), [[0, 1], good, [number, None]])
        self.wrong(("struck", 1), ((0, 0), ((3, (1, 0)),), (0, 0)), plan=((3, 3), ((0, 0),)), desk=Desk(
            HAND.kinds, HAND.tools[:3] + (("far", (0, 0), (((0, 0), (1, 1)),)),), ()))

    def test_the_first_fault_is_told(self):
        self.wrong(("things", -1), (None, None, None))
        self.wrong(("things", 0), ((None,), None, None))
        self.wrong(("deeds", 0), ((0, 1), (None,), None))
        self.wrong(("struck", 0), ((0, 1), ((0, (0, 1)), (2, (1,))), (None, None)))

    def test_any_value_and_spoilt_histories(self):
        rng = self.rng(4)
        plan = ((0, 2), ((0, 0), (1, 1)))
        for value in odd_values():
            for history in (value, (value, (), ()), ((0, 1), value, ()), ((0, 1), (value,), ()),
                            ((0, 1), ((0, (0, 1)), (2, (1,))), value), ((0, 1), ((0, (0, 1)), (2, (1,))), (0, value))):
                self.judged(HAND, plan, history)
        for _ in range(3000):
            desk, plan, history = random_case(rng)
            self.judged(desk, plan, spoilt(rng, history))

    def judged(self, desk, plan, history):
        at = wrong_history(desk, plan, history)
        if at is not None:
            self.wrong(at, history, desk, plan)
        else:
            self.assertTrue(is_tuples(columns_of(desk, plan, history)))

    def test_arguments_stay(self):
        plan, history = as_lists(both_plan(1, 0)), as_lists(LOCKED)
        for call in CALLS:
            call(LOCK, plan, history)
        self.assertEqual((plan, history), (as_lists(both_plan(1, 0)), as_lists(LOCKED)))


if __name__ == "__main__":
    unittest.main()
