"""[31], module bridge: desks with a row for everything, and both worsts."""

import itertools
import unittest

from lateno.bridge import bridge, totalled
from lateno.desks import Desk, is_total
from lateno.errors import InvalidPlan, InvalidSize
from lateno.plans import no_plan
from lateno.prices import worst
from lateno.reach import what_comes
from lateno.reaching import is_safe
from lateno.tables import worst_of
from lateno.walls import wall
from lateno.worlds import all_done, world_behind
from plan_samples import possible_tools
from samples import COPY, LOCK, MAIL, Case, odd_values, random_desk, random_history
from table_samples import BOUGHT, COPIED, PRICE, random_counting_desk

RANK = {"most": 0, "grows": 1, "bad": 2}


def told_by_table(desk, tool):
    number = worst_of(desk, tool, PRICE)
    if number is not None:
        return ("most", number)
    return ("grows",) if is_safe(desk, tool) else ("bad",)


class Totalled(Case):
    def test_row_by_row(self):
        self.same(totalled(MAIL).told, (MAIL.kinds, (
            ("sign", (0,), (((0,), (1,)), ((1,), (1,)), ((2,), (2,)))), ("send", (0,), (((0,), (0,)), ((1,), (2,)), ((2,), (2,)))),
        ), MAIL.repairs))
        self.same(totalled(desk=COPY).tools[1][2], (((0, 0), (0, 0)), ((0, 1), (0, 1)), ((1, 0), (1, 1)), ((1, 1), (1, 1))))
        self.assertIsInstance(totalled(MAIL), Desk)
        self.same(MAIL.tools[0][2], (((0,), (1,)),))

    def test_of_any_desk(self):
        rng = self.rng(1)
        for _ in range(100):
            desk = random_desk(rng, kinds=3, states=3, roles=3)
            found = totalled(desk)
            self.same((found.kinds, found.repairs), (desk.kinds, desk.repairs))
            self.same(is_total(found), True)
            self.same(what_comes(found), what_comes(desk))
            self.same(totalled(found).told, found.told)
            for (name, roles, rows), told in zip(desk.tools, found.tools):
                known = dict(rows)
                befores = itertools.product(*[range(desk.kinds[kind][1]) for kind in roles])
                self.same(told, (name, roles, tuple((before, known.get(before, before)) for before in befores)))
            history = random_history(rng, desk)
            self.same(world_behind(found, history), world_behind(desk, history))
            self.same(all_done(found, history), True)

    def test_no_tools(self):
        desk = Desk((("a", 2),), (), ((0, 0, 1, 1),))
        self.same(totalled(desk).told, desk.told)


class Bridge(Case):
    def test_by_hand(self):
        self.same(bridge(MAIL, 0), (("bad",), ("most", 3)))
        self.same(bridge(desk=BOUGHT, tool=0), (("most", 3), ("most", 3)))
        self.same(bridge(COPIED, 0), (("grows",), ("grows",)))
        self.same(bridge(LOCK, 0), (worst(totalled(LOCK), no_plan(0)), worst(LOCK, no_plan(0))))

    def test_the_first_is_what_the_table_tells(self):
        rng = self.rng(2)
        seen = {}
        for _ in range(300):
            desk = random_counting_desk(rng)
            for tool in possible_tools(desk):
                one, other = bridge(desk, tool)
                self.same(one, told_by_table(desk, tool))
                self.same((one, other), (worst(totalled(desk), no_plan(tool)), worst(desk, no_plan(tool))))
                self.assertLessEqual((RANK[other[0]],) + other[1:], (RANK[one[0]],) + one[1:])
                if is_total(desk):
                    self.same(one, other)
                seen[(one[0], other[0])] = seen.get((one[0], other[0]), 0) + 1
        self.assertGreater(len(seen), 4)

    def test_one_apart_thing_is_enough(self):
        rng = self.rng(3)
        for _ in range(80):
            desk = totalled(random_counting_desk(rng))
            for _, heap in wall(desk, no_plan(0), None):
                self.assertLessEqual(len(heap), 1)


class Errors(Case):
    def test_plans_come_first(self):
        for value in odd_values() + [2, -1]:
            if type(value) is int and 0 <= value < 2:
                continue
            self.fails(InvalidPlan, ("tools", 0), bridge, MAIL, value)
        # over the desk with a row for everything the tool were possible
        desk = Desk((("a", 4),), (("none", (0,), (((3,), (0,)),)), ("up", (0, 0), ())), ())
        self.fails(InvalidPlan, ("tools", 0), bridge, desk, 0)
        self.fails(InvalidPlan, ("tools", 0), bridge, desk, 1)

    def test_then_sizes(self):
        rows = [((x, 0, 0), (min(x + 1, 3), 0, 0)) for x in range(4)]
        desk = Desk((("a", 4),), (("up", (0, 0, 0), rows),), ())
        self.fails(InvalidSize, "net", bridge, desk, 0)
        self.fails(InvalidPlan, ("tools", 0), bridge, desk, 1)


if __name__ == "__main__":
    unittest.main()
