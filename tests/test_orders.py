"""[31], module orders: Nos in a row, and whether their order matters."""

import collections
import unittest

from lateno.desks import Desk
from lateno.errors import InvalidPlan, InvalidSize
from lateno.nets import net_steps, run_of
from lateno.orders import order_matters, order_story, row_worst
from lateno.plans import both_plan, columns_of, no_plan, row_plan
from lateno.prices import worst
from lateno.walls import is_calm
from plan_samples import possible_tools, random_plan_history
from samples import LOCK, MAIL, Case, is_tuples, odd_values, random_desk
from table_samples import BOUGHT, COPIED, random_counting_desk

LOCKED = ((0,), ((0, (0,)), (1, (0,)), (2, (0,))), (1, 0))


def row_again(desk, tools):
    told = [worst(desk, no_plan(tool)) for tool in tools]
    for word in ("bad", "grows"):
        if (word,) in told:
            return (word,)
    return ("most", sum(value[1] for value in told))


def fewest_moves(desk, plan, most):
    """The fewest moves from the first standing to one in which columns 3 and 4 of some thing are unlike; None if none in so many."""
    known, layer = {((), ())}, [((), ())]
    for moves in range(most + 1):
        for done, heap in layer:
            if len(done) == 2 and any(row[3] != row[4] for _, row in heap):
                return moves
        layer = {behind for one in layer for _, behind in net_steps(desk, plan, one)} - known
        known |= layer
        if len(known) > 400:
            return None
    return None


def random_two(rng):
    """(desk of 2 states, two possible tools)."""
    while True:
        desk = random_desk(rng, kinds=2, states=2, tools=3, fill=rng.choice([0.3, 0.5, 0.8]))
        tools = possible_tools(desk)
        if tools:
            return desk, rng.choice(tools), rng.choice(tools)


class Rows(Case):
    def test_by_hand(self):
        self.same(row_worst(MAIL, (0,)), ("most", 3))
        self.same(row_worst(MAIL, (0, 0)), ("most", 6))
        self.same(row_worst(MAIL, (0, 1)), ("bad",))
        self.same(row_worst(desk=BOUGHT, tools=[0, 1, 0]), ("most", 3 + 2 + 3))
        self.same(row_worst(COPIED, (0, 0, 0)), ("grows",))
        # what grows is worse than any number, what is bad worse than that
        both = Desk((("mail", 3), ("box", 2)), COPIED.tools + (("open", (1,), (((0,), (1,)),)),), COPIED.repairs)
        self.same([row_worst(both, tools) for tools in ((0, 2), (2, 0), (0, 0), (2, 2))], [("bad",), ("bad",), ("grows",), ("bad",)])

    def test_against_the_plan_of_the_row(self):
        rng = self.rng(1)
        seen = collections.Counter()
        for _ in range(300):
            desk = random_counting_desk(rng)
            tools = possible_tools(desk)
            if not tools:
                continue
            row = tuple(rng.choice(tools) for _ in range(rng.randint(1, 2)))
            found = row_worst(desk, row)
            self.same(found, row_again(desk, row))
            try:
                self.same(found, worst(desk, row_plan(row)))
                seen[(len(row), found[0])] += 1
            except InvalidSize:
                seen["too large"] += 1
        self.assertGreater(min(seen[(many, word)] for many in (1, 2) for word in ("bad", "grows", "most")), 2)

    def test_three_in_a_row(self):
        rng = self.rng(2)
        seen = collections.Counter()
        for _ in range(60):
            desk = random_desk(rng, kinds=1, states=2, tools=3, roles=2, fill=rng.choice([0.3, 0.6]))
            tools = possible_tools(desk)
            if not tools:
                continue
            row = tuple(rng.choice(tools) for _ in range(3))
            try:
                self.same(row_worst(desk, row), worst(desk, row_plan(row)))
                seen[row_worst(desk, row)[0]] += 1
            except InvalidSize:
                seen["too large"] += 1
        self.assertGreater(seen["most"], 5)


class Orders(Case):
    def test_the_desk_by_hand(self):
        self.same(order_matters(LOCK, 1, 0), True)
        self.same(order_matters(desk=LOCK, one=0, other=1), True)
        self.same(columns_of(LOCK, both_plan(1, 0), LOCKED)[0][3:], (0, 2))
        story = order_story(LOCK, 1, 0)
        self.same(len(run_of(LOCK, both_plan(1, 0), story)), 3)
        self.assertTrue(any(row[3] != row[4] for row in columns_of(LOCK, both_plan(1, 0), story)))
        self.same(order_matters(MAIL, 0, 1), False)
        self.same(order_story(desk=MAIL, one=0, other=1), None)
        self.same([order_matters(MAIL, one, one) for one in (0, 1)], [False, False])
        # with a row for everything no order matters
        rows = [((x,), (min(x + 1, 2),)) for x in range(3)]
        total = Desk((("x", 3),), (("up", (0,), rows), ("zero", (0,), [((x,), (0,)) for x in range(3)])), ())
        self.same([order_matters(total, 0, 1), order_story(total, 0, 1)], [False, None])

    def test_against_telling_again(self):
        rng = self.rng(3)
        seen = collections.Counter()
        for _ in range(200):
            desk, one, other = random_two(rng)
            plan = both_plan(one, other)
            try:
                found, story = order_matters(desk, one, other), order_story(desk, one, other)
            except InvalidSize as error:
                self.assertIn(error.word, ("net", "wall"))
                seen[error.word] += 1
                continue
            self.same(story is not None, found)
            self.same(found, not is_calm(desk, plan, (3, 4)))
            if found:
                self.assertTrue(is_tuples(story))
                self.assertTrue(any(row[3] != row[4] for row in columns_of(desk, plan, story)))
                moves = len(run_of(desk, plan, story))
                fewest = fewest_moves(desk, plan, moves)
                self.assertIn(fewest, (moves, None))
                seen["fewest"] += fewest is not None
            for _ in range(3):
                history = random_plan_history(rng, desk, plan)
                if history is not None and any(row[3] != row[4] for row in columns_of(desk, plan, history)):
                    self.assertTrue(found)
                    seen["met"] += 1
            seen[found] += 1
        self.assertGreater(min(seen[key] for key in (True, False, "fewest", "met")), 5)


class Errors(Case):
    def test_tools(self):
        desk = Desk((("a", 3),), (("far", (0,), (((2,), (1,)),)), ("set", (0,), (((0,), (1,)),))), ())
        for value in (None, 0, "ab", True, (), [], (1, 1, 1, 1), MAIL):
            self.fails(InvalidPlan, ("tools", -1), row_worst, desk, value)
        for value in (0, 2, -1, True, None, "1", (1,)):
            self.fails(InvalidPlan, ("tools", 0), row_worst, desk, (value, 9))
            self.fails(InvalidPlan, ("tools", 2), row_worst, desk, [1, 1, value])
            for call in (order_matters, order_story):
                self.fails(InvalidPlan, ("tools", 0), call, desk, value, 9)
                self.fails(InvalidPlan, ("tools", 1), call, desk, 1, value)
        for value in odd_values():
            if type(value) not in (list, tuple) or not 1 <= len(value) <= 3:
                self.fails(InvalidPlan, ("tools", -1), row_worst, MAIL, value)

    def test_sizes(self):
        rows = tuple(((x, y, z), (x, y, z)) for x in range(4) for y in range(4) for z in range(4))
        every = tuple(((state,), ((state + 1) % 4,)) for state in range(4))
        large = Desk((("a", 4),), (("set", (0,), every), ("far", (0, 0, 0), rows)), ())
        for call, told in ((row_worst, ((0, 1),)), (order_matters, (0, 1)), (order_story, (0, 1))):
            self.fails(InvalidSize, "net", call, large, *told)
        self.fails(InvalidPlan, ("tools", 1), row_worst, large, (0, 2))
        self.fails(InvalidPlan, ("tools", 1), order_matters, large, 0, 2)
        # one No is small enough here, two in both orders are not
        middle = Desk((("a", 4),), (("up", (0,), [((x,), (x + 1,)) for x in range(3)]),), ())
        self.same(row_worst(middle, (0, 0)), row_again(middle, (0, 0)))
        for call in (order_matters, order_story):
            self.fails(InvalidSize, "wall", call, middle, 0, 0)

    def test_sizes_of_the_second_tool_come_though_the_first_is_bad(self):
        rows = [((x, 0), (x + 1, 1)) for x in range(1, 5)]
        ups = [((y,), (y + 1,)) for y in range(1, 4)]
        desk = Desk((("a", 6), ("b", 5), ("c", 5), ("d", 5), ("e", 2)), (
            ("set", (0,), (((0,), (1,)),)), ("markb", (0, 1), rows), ("markc", (0, 2), rows), ("markd", (0, 3), rows),
            ("upb", (1,), ups), ("upc", (2,), ups), ("upd", (3,), ups), ("burn", (4,), (((0,), (1,)),)),
        ), [(kind, x, 0, 1) for kind in range(4) for x in range(1, 6 if kind == 0 else 5)])
        self.same(worst(desk, no_plan(7)), ("bad",))
        self.same(row_worst(desk, (7, 7)), ("bad",))
        self.fails(InvalidSize, "standings", worst, desk, no_plan(0))
        self.fails(InvalidSize, "standings", row_worst, desk, (7, 0))
        self.fails(InvalidSize, "standings", row_worst, desk, (0, 7))


if __name__ == "__main__":
    unittest.main()
