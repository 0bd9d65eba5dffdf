"""[1], [2], [3]: what holds for all of the package."""

import time
import unittest

from lateno.asking import ask_tree, asks_needed, broken_lots, firm_holds, firm_table, least_yeses, sure_asks, tree_asks
from lateno.bought import cheapest, lots_from, stairs, whole_breaks, whole_lots
from lateno.breaks import break_story, breaks_table, cuts, is_break, story_holds
from lateno.bridge import bridge, totalled
from lateno.contracts import contract_holds, contract_table, least_contract
from lateno.counts import counted
from lateno.crossings import crossings_of, least_breaks, least_lots, lists_hold
from lateno.desks import Desk, is_total, kind_number, need_offers, tool_number, with_repairs
from lateno.exact import exact, exact_holds
from lateno.faces import comes_to, face_of, is_beside, join_faces, no_worse, order_of
from lateno.fallen import fallen_holds, fallen_paper, most_fallen, sorts_that_fall
from lateno.guards import all_guards, guard_table, is_kept, serves, value_of, with_bought
from lateno.holding import bad_edges, bill, cheapest_order, dearest_order, edge_price, fresh_ledger, ledger_of, lets, no_ledger
from lateno.holding import tried_ledger, yes_ledger
from lateno.houses import House, closed_lots, comes_with, join_houses, seam_of
from lateno.late import late_history
from lateno.nets import history_of, net_led, net_moves, net_steps, run_of
from lateno.nos import group_reached, group_worst, paid, still
from lateno.notes import leaning, noted
from lateno.orders import order_matters, order_story, row_worst
from lateno.pairs import least_price, repair_price, repair_row
from lateno.parting import parting, parting_holds
from lateno.plans import both_plan, columns_of, heap_of, no_plan, row_plan, stands_of
from lateno.prices import closed_lot, closed_lot_holds, price_of, worst
from lateno.reach import closed_holds, ready, sorts, what_comes
from lateno.reaching import bad_way, is_safe, reached, ring, ring_holds, way_holds
from lateno.rings import growing_ring, growing_ring_holds, ring_history
from lateno.silence import is_silent, loud_holds, loud_run, need_rules, rule_serves
from lateno.steps import beginnings, played, steps
from lateno.tables import base, table, table_holds, worst_of
from lateno.texts import desk_text, history_text, read_desk, read_history
from lateno.twins import apart, both, less, lot_worlds, need_struck, otherwise, trail, twin_behind, unlike_things
from lateno.walls import is_calm, late_story, late_story_holds, wall, wall_holds
from lateno.worlds import all_done, alike_count, alike_histories, interleaved, need_history, normal_history, outcomes
from lateno.worlds import thing_rows, tried, world_behind, worlds_along
from samples import LOCK, MAIL, Case, as_lists, is_tuples
from table_samples import COPIED

HISTORY = ((0, 0), ((0, (0,)), (1, (0,)), (0, (0,)), (0, (1,))))
LOCKED = ((0,), ((0, (0,)), (1, (0,)), (2, (0,))), (1, 0))
RUN = ((0, ((0, 0, 0, 0, 0),), 1), (1, ((1, 1, 0, 0, 0),), 0), (2, ((0, 1, 0, 0, 0),), -1))
OFFERS = ((0, 2, 1, 2),)
OTHER = House(Desk(MAIL.kinds + (("box", 2),), (("put", (0, 1), (((2, 0), (0, 1)),)),), MAIL.repairs), 1)
PLAN = both_plan(1, 0)
PRICE = ("price",)
LEDGER = ledger_of(MAIL, HISTORY, (0, 1))
HELD = {"desk": MAIL, "ledger": LEDGER, "one": (0, (0,)), "waits": True, "bound": 9}
NOTED = noted(MAIL, 0, "note", "look")
RULES = ((0, ()), (1, (0,)))
BOUGHT = with_repairs(MAIL, OFFERS)
JOINED = (House(BOUGHT, 1), House(Desk(BOUGHT.kinds, (("back", (0,), (((2,), (0,)),)),), BOUGHT.repairs), 1))

GUARDED = {"desk": MAIL, "offers": OFFERS, "tool": 0, "lot": (("buy", 0), ("wait", 0), ("wait", 1)), "promise": ("most", 2)}
WANTED = {"desk": MAIL, "offers": OFFERS, "tool": 0, "promise": ("right",)}
WHOLE = {"desk": MAIL, "offers": OFFERS, "tools": (0, 1), "promise": ("most", 3)}
COSTS = ((("buy", 0), 5), (("wait", 0, 0), 1), (("wait", 0, 1), 1), (("wait", 1, 0), 1), (("wait", 1, 1), 2))

# (function, its arguments in their order, names of those that may hold no lists)
CALLS = (
    (kind_number, {"desk": MAIL, "name": "mail"}), (tool_number, {"desk": MAIL, "name": "send"}), (is_total, {"desk": MAIL}),
    (need_offers, {"desk": MAIL, "value": OFFERS}), (with_repairs, {"desk": MAIL, "offers": OFFERS}),
    (Desk, {"kinds": MAIL.kinds, "tools": MAIL.tools, "repairs": MAIL.repairs}), (House, {"desk": MAIL, "many": 1}),
    (least_price, {"desk": MAIL, "kind": 0, "x": 2, "y": 0}), (repair_row, {"desk": MAIL, "kind": 0, "x": 2, "y": 0}),
    (repair_price, {"desk": MAIL, "kind": 0, "x": 2, "y": 0, "value": (1,)}, "value"),
    (no_plan, {"tool": 1}), (row_plan, {"tools": (1, 0)}), (both_plan, {"one": 1, "other": 0}),
    (columns_of, {"desk": LOCK, "plan": PLAN, "history": LOCKED}), (stands_of, {"desk": LOCK, "plan": PLAN, "history": LOCKED}),
    (heap_of, {"desk": LOCK, "plan": PLAN, "history": LOCKED}),
    (what_comes, {"desk": MAIL}), (sorts, {"desk": MAIL}), (closed_holds, {"desk": MAIL, "value": ((0, 1, 2),)}, "value"),
    (ready, {"desk": MAIL, "wants": ((0, 2), (0, 1))}),
    (need_history, {"desk": MAIL, "value": HISTORY}), (tried, {"desk": MAIL, "world": (0, 1), "one": (1, (1,))}),
    (worlds_along, {"desk": MAIL, "history": HISTORY}), (world_behind, {"desk": MAIL, "history": HISTORY}),
    (outcomes, {"desk": MAIL, "history": HISTORY}), (all_done, {"desk": MAIL, "history": HISTORY}),
    (thing_rows, {"desk": MAIL, "history": HISTORY}), (normal_history, {"desk": MAIL, "history": HISTORY}),
    (alike_histories, {"desk": MAIL, "one": HISTORY, "other": HISTORY}), (alike_count, {"desk": MAIL, "history": HISTORY}),
    (interleaved, {"desk": MAIL, "things": (0, 0), "rows": (((0, (0,)),), ((0, (1,)),)), "turns": (1, 0)}),
    (seam_of, {"house": OTHER}), (join_houses, {"house": House(MAIL, 1), "other": OTHER}),
    (comes_with, {"house": OTHER, "lots": ((0, 2),)}), (closed_lots, {"house": OTHER}),
    (net_moves, {"desk": LOCK, "plan": PLAN, "done": (1,)}), (net_led, {"desk": LOCK, "plan": PLAN, "moves": RUN}, "moves"),
    (net_steps, {"desk": LOCK, "plan": PLAN, "standing": ((1,), ((0, (1, 1, 0, 0, 0)),))}),
    (run_of, {"desk": LOCK, "plan": PLAN, "history": LOCKED}), (history_of, {"desk": LOCK, "plan": PLAN, "moves": RUN}, "moves"),
    (steps, {"desk": MAIL, "sort": (0, 1, 0)}), (played, {"desk": MAIL, "sort": (0, 1, 0), "step": (1, 0, ())}),
    (beginnings, {"desk": MAIL, "tool": 0}),
    (desk_text, {"desk": MAIL}), (read_desk, {"text": desk_text(MAIL)}), (history_text, {"desk": MAIL, "history": HISTORY}),
    (read_history, {"desk": MAIL, "text": history_text(MAIL, HISTORY)}),
    (need_struck, {"history": HISTORY, "value": (0, 2)}), (less, {"desk": MAIL, "history": HISTORY, "struck": (0, 2)}),
    (twin_behind, {"desk": MAIL, "history": HISTORY, "struck": (0,)}), (both, {"desk": MAIL, "history": HISTORY, "struck": (0,)}),
    (unlike_things, {"world": (0, 1), "twin": (1, 1)}), (apart, {"desk": MAIL, "history": HISTORY, "struck": (0,)}),
    (otherwise, {"desk": MAIL, "history": HISTORY, "struck": (0,)}), (trail, {"desk": MAIL, "history": HISTORY, "number": 0}),
    (lot_worlds, {"desk": MAIL, "history": HISTORY, "waiting": (0, 3)}),
    (all_guards, {"desk": MAIL, "offers": OFFERS}), (with_bought, {"desk": MAIL, "offers": OFFERS, "lot": (("buy", 0),)}),
    (guard_table, {"desk": MAIL, "offers": OFFERS, "lot": (("buy", 0), ("wait", 1))}),
    (value_of, {"desk": MAIL, "offers": OFFERS, "tool": 0, "lot": (("wait", 1),)}),
    (is_kept, {"value": ("most", 3), "promise": ("most", 3)}, "value"),
    (serves, {"desk": MAIL, "offers": OFFERS, "tool": 0, "lot": (("wait", 1),), "promise": ("right",)}),
    (base, {"desk": MAIL, "number": PRICE, "sort": (0, 1, 0)}), (table, {"desk": MAIL, "number": ("otherwise", (0, 1))}),
    (table_holds, {"desk": MAIL, "number": PRICE, "value": table(MAIL, PRICE)}, "value"),
    (worst_of, {"desk": MAIL, "tool": 0, "number": ("otherwise", (0, 1))}),
    (noted, {"desk": MAIL, "kind": 0, "note": "note", "look": "look"}),
    (leaning, {"desk": NOTED, "tool": 0, "note": 1, "lets": (1, 2), "eats": True}),
    (wall, {"desk": LOCK, "plan": PLAN, "goal": (3, 4)}), (is_calm, {"desk": LOCK, "plan": PLAN, "goal": (3, 4)}),
    (wall_holds, {"desk": MAIL, "plan": no_plan(0), "goal": None, "value": wall(MAIL, no_plan(0), None)}, "value"),
    (late_story, {"desk": LOCK, "plan": PLAN, "goal": (3, 4)}),
    (late_story_holds, {"desk": LOCK, "plan": PLAN, "goal": (3, 4), "history": LOCKED}),
    (fresh_ledger, {"desk": MAIL, "things": (0, 0)}), (ledger_of, {"desk": MAIL, "history": HISTORY, "waiting": (0, 1)}),
    (tried_ledger, {"desk": MAIL, "ledger": LEDGER, "one": (1, (1,)), "waits": True}),
    (yes_ledger, {"desk": MAIL, "ledger": LEDGER, "place": 1}), (no_ledger, {"desk": MAIL, "ledger": LEDGER, "place": 1}),
    (edge_price, {"desk": MAIL, "ledger": LEDGER, "lot": (1,), "place": 0}), (bad_edges, {"desk": MAIL, "ledger": LEDGER}),
    (bill, {"desk": MAIL, "ledger": LEDGER}), (lets, HELD), (dearest_order, {"desk": MAIL, "ledger": LEDGER, "lot": (0, 1)}),
    (cheapest_order, {"desk": MAIL, "ledger": LEDGER, "lot": (0, 1)}), (least_yeses, HELD), (broken_lots, HELD), (sure_asks, HELD),
    (asks_needed, HELD), (ask_tree, HELD), (tree_asks, {**HELD, "value": ask_tree(**HELD)}, "value"), (firm_table, HELD),
    (firm_holds, {**HELD, "value": firm_table(**HELD)}, "value"),
    (need_rules, {"desk": MAIL, "value": RULES}), (rule_serves, {"desk": MAIL, "tool": 0, "waits": (1,)}),
    (is_silent, {"desk": MAIL, "rules": RULES}), (loud_run, {"desk": MAIL, "rules": RULES}),
    (loud_holds, {"desk": MAIL, "rules": RULES, "value": loud_run(MAIL, RULES)}, "value"),
    (counted, {"desk": MAIL, "history": HISTORY, "struck": (0,), "number": ("otherwise", (0, 1))}),
    (is_safe, {"desk": MAIL, "tool": 0}), (bad_way, {"desk": MAIL, "tool": 0}),
    (way_holds, {"desk": MAIL, "tool": 0, "value": bad_way(MAIL, 0)}, "value"), (ring, {"desk": COPIED, "tool": 0, "number": PRICE}),
    (ring_holds, {"desk": COPIED, "tool": 0, "number": PRICE, "value": ring(COPIED, 0, PRICE)}, "value"),
    (reached, {"desk": COPIED, "tool": 0, "number": ("touched", (0,)), "least": 3}),
    (exact, {"desk": COPIED, "number": ("otherwise", (0, 1))}),
    (exact_holds, {"desk": COPIED, "number": PRICE, "value": exact(COPIED, PRICE)}, "value"),
    (price_of, {"desk": BOUGHT, "plan": no_plan(0), "heap": ((0, (2, 0)), (0, (2, 1)))}), (worst, {"desk": BOUGHT, "plan": row_plan((0, 0))}),
    (closed_lot, {"desk": BOUGHT, "plan": no_plan(0)}),
    (closed_lot_holds, {"desk": BOUGHT, "plan": no_plan(0), "most": 3, "value": closed_lot(BOUGHT, no_plan(0))}, "value"),
    (totalled, {"desk": MAIL}), (bridge, {"desk": MAIL, "tool": 0}), (contract_table, {"house": JOINED[0], "contract": least_contract(*JOINED)}),
    (contract_holds, {"house": JOINED[0], "value": least_contract(*JOINED)}, "value"), (least_contract, {"house": JOINED[0], "other": JOINED[1]}),
    (group_worst, {"desk": MAIL, "tools": (0, 1), "many": 3, "number": ("otherwise", (0, 1))}),
    (group_reached, {"desk": MAIL, "tools": (0, 1), "many": 3, "number": ("otherwise", (0, 1)), "least": 7}),
    (paid, {"desk": BOUGHT, "history": HISTORY, "order": (1, 0)}), (sorts_that_fall, {"desk": MAIL, "tool": 0}),
    (still, {"desk": BOUGHT, "history": HISTORY, "struck": (0,), "number": ("touched", (0,))}), (most_fallen, {"desk": MAIL, "tool": 0}),
    (fallen_paper, {"desk": MAIL, "tool": 0}), (fallen_holds, {"desk": MAIL, "tool": 0, "most": 1, "value": fallen_paper(MAIL, 0)}, "value"),
    (row_worst, {"desk": BOUGHT, "tools": (0, 1)}), (order_matters, {"desk": LOCK, "one": 1, "other": 0}),
    (order_story, {"desk": LOCK, "one": 1, "other": 0}),
    (late_history, {"desk": MAIL, "offers": OFFERS, "tool": 0, "lot": (("buy", 0),), "promise": ("most", 2)}),
    (comes_to, {"house": JOINED[0], "waits": (1,), "lots": ((0, 1, 2),), "sort": (0, 2, 0)}), (order_of, {"sorts": ((0, 1, 2), (0, 2, 3))}),
    (face_of, {"house": JOINED[0], "waits": (1,)}), (is_beside, {"face": face_of(JOINED[1], ()), "house": JOINED[0], "tool": 0, "waits": (1,)}),
    (join_faces, {"face": face_of(JOINED[0], ()), "other": face_of(JOINED[1], ())}),
    (no_worse, {"face": face_of(JOINED[0], ()), "other": face_of(JOINED[0], (0,))}),
    (growing_ring, {"desk": COPIED, "plan": no_plan(0)}),
    (growing_ring_holds, {"desk": COPIED, "plan": no_plan(0), "value": growing_ring(COPIED, no_plan(0))}, "value"),
    (ring_history, {"desk": COPIED, "plan": row_plan((0, 0)), "value": growing_ring(COPIED, row_plan((0, 0))), "times": 2}, "value"),
    (is_break, GUARDED), (break_story, GUARDED), (story_holds, {**GUARDED, "story": break_story(**GUARDED)}, "story"),
    (cuts, {"desk": MAIL, "offers": OFFERS, "sort": (0, 2, 1)}), (breaks_table, {"desk": MAIL, "offers": OFFERS}),
    (crossings_of, {"lots": ((("buy", 0), ("wait", 1)), (("wait", 0, 1),))}),
    (least_lots, WANTED), (least_breaks, WANTED),
    (lists_hold, {**WANTED, "lots": least_lots(**WANTED), "breaks": least_breaks(**WANTED)}, "lots", "breaks"),
    (stairs, {"desk": MAIL, "offers": OFFERS, "tool": 0}), (lots_from, {"rows": stairs(MAIL, OFFERS, 0), "promise": ("most", 3)}),
    (whole_lots, WHOLE), (whole_breaks, WHOLE), (cheapest, {**WHOLE, "costs": COSTS}),
    (parting, {"house": JOINED[0], "other": JOINED[1]}),
    (parting_holds, {"house": JOINED[0], "other": JOINED[1], "value": parting(*JOINED)}, "value"),
)


def told(result):
    """A result as it can be compared: objects by what they tell."""
    if isinstance(result, tuple):
        return tuple(told(one) for one in result)
    return result.told if isinstance(result, (Desk, House)) else result


def in_lists(named, whole):
    """The arguments with lists for tuples; such as may hold no lists stay, or are a list of tuples themselves."""
    found = {}
    for name, value in named.items():
        if name not in whole:
            found[name] = as_lists(value)
        else:
            found[name] = list(value) if name == "moves" else value
    return found


class AllCalls(Case):
    def results(self, turn):
        found = {}
        for call, named, *whole in turn:
            found[call] = told(call(**named))
        return found

    def test_by_position_by_names_and_with_lists(self):
        for call, named, *whole in CALLS:
            want = told(call(*named.values()))
            self.same(told(call(**named)), want)
            self.same(told(call(**dict(reversed(list(named.items()))))), want)
            lists = in_lists(named, whole)
            self.same(told(call(**lists)), want)
            self.same(told(call(*lists.values())), want)

    def test_results_are_tuples_throughout(self):
        for call, named, *_ in CALLS:
            self.assertTrue(is_tuples(told(call(**named))), call.__name__)

    def test_arguments_do_not_change_and_are_not_kept(self):
        for call, named, *whole in CALLS:
            lists = in_lists(named, whole)
            before = repr({name: told(value) for name, value in lists.items()})
            found = call(**lists)
            self.assertEqual(repr({name: told(value) for name, value in lists.items()}), before, call.__name__)
            want = repr(told(found))
            for value in lists.values():
                if isinstance(value, list):
                    value.clear()
            self.assertEqual(repr(told(found)), want, call.__name__)

    def test_equal_calls_give_equal_results_whatever_comes_between(self):
        first = self.results(CALLS)
        self.same(list(self.results(CALLS[::-1]).values()), list(first.values())[::-1])
        self.same(list(self.results(CALLS).values()), list(first.values()))
        for desk in (MAIL, LOCK):
            fresh = Desk(*desk.told)
            self.same(what_comes(fresh), what_comes(desk))
            self.same(guard_table(fresh, (), ()), guard_table(desk, (), ()))

    def test_whether_is_a_bool(self):
        for call in (is_total, closed_holds, all_done, alike_histories, is_kept, serves, table_holds, is_calm, wall_holds, lets, rule_serves,
                     is_silent, loud_holds, late_story_holds, is_safe, way_holds, ring_holds, exact_holds, closed_lot_holds, contract_holds,
                     fallen_holds, order_matters, is_beside, no_worse, growing_ring_holds, is_break, story_holds, lists_hold, parting_holds):
            named = next(row[1] for row in CALLS if row[0] == call)
            self.assertIs(type(call(**named)), bool)
        for row in outcomes(MAIL, HISTORY) + tried(MAIL, (0,), (0, (0,)))[1:] + played(MAIL, (0, 1, 0), (1, 0, ()))[:2]:
            self.assertIs(type(row), bool)


class ByHand(Case):
    def test_the_overview(self):
        history = ((0,), ((0, (0,)), (1, (0,)), (0, (0,))))
        self.same(twin_behind(MAIL, history, (0,)), (1,))
        self.same(counted(MAIL, history, (0,), ("price",)), None)
        self.same(is_safe(MAIL, 0), False)
        self.same(least_lots(MAIL, (), 0, ("right",)), ((("wait", 0),), (("wait", 1),)))
        self.same(least_breaks(MAIL, (), 0, ("right",)), ((("wait", 0), ("wait", 1)),))
        self.same([worst_of(BOUGHT, 0, ("price",)), group_worst(BOUGHT, (0,), 40, ("price",))], [3, 120])

    def test_the_mail_desk(self):
        self.same(sorts(MAIL), ((0, 0, 1), (0, 0, 2), (0, 1, 0), (0, 1, 2), (0, 2, 0), (0, 2, 1)))
        self.same([least_price(MAIL, *sort) for sort in sorts(MAIL)], [None, None, 1, None, 3, None])
        self.same(way_holds(MAIL, 0, (0, 0, ((1, 0, (), 0), (0, 0, (), 0)))), True)
        told = dict(table(BOUGHT, ("price",)))
        self.same([told[sort] for sort in ((0, 2, 1), (0, 2, 0), (0, 1, 0))], [2, 3, 3])
        told = dict(table(BOUGHT, ("otherwise", (0, 1))))
        self.same([told[sort] for sort in ((0, 2, 1), (0, 2, 0), (0, 1, 0))], [1, 2, 3])
        self.same(group_worst(BOUGHT, (0,), 3, ("price",)), 9)
        self.same([is_safe(COPIED, 0), worst_of(COPIED, 0, ("price",))], [True, None])
        self.same(least_breaks(MAIL, OFFERS, 0, ("right",)), ((("buy", 0), ("wait", 0), ("wait", 1)),))
        self.same(stairs(MAIL, OFFERS, 0), (((), ("bad",)), ((("buy", 0),), ("most", 3)), ((("wait", 0),), ("most", 3)), ((("wait", 1),), ("most", 1))))


class Limits(Case):
    def test_the_largest_desk(self):
        kinds = [(letter, 6) for letter in "abcdef"]
        states = [(x, y, z) for x in range(6) for y in range(6) for z in range(6)]
        rows = [(before, (before[1], before[2], min(before[0] + 1, 5))) for before in states]
        tools = [("t" + letter, (at % 6, (at + 1) % 6, (at + 5) % 6), rows) for at, letter in enumerate("abcdefghijklmnopqrst")]
        repairs = [(kind, x, y, 10 ** 6) for kind in range(6) for x in range(6) for y in range(6) if x != y]
        started = time.monotonic()
        desk = Desk(kinds, tools, repairs)
        self.same(what_comes(desk), (tuple(range(6)),) * 6)
        self.same(is_total(desk), True)
        self.same(read_desk(desk_text(desk)).told, desk.told)
        self.same(len(ready(desk, [(kind, state) for kind in range(6) for state in range(6)])[0]) >= 36, True)
        self.same(with_repairs(desk, [(0, 0, 1, 1)]).repairs[0], (0, 0, 1, 1))
        self.assertLess(time.monotonic() - started, 20)


if __name__ == "__main__":
    unittest.main()
