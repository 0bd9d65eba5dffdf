"""The interface: each name in the file under which it is listed, with the parameters of the points; and the README."""

import ast
import importlib
import inspect
import os
import unittest

FOLDER = os.path.join(os.path.dirname(os.path.dirname(os.path.abspath(__file__))), "lateno")

FUNCTIONS = {
    "desks": {
        "kind_number": "desk name", "tool_number": "desk name", "is_total": "desk", "need_offers": "desk value",
        "with_repairs": "desk offers",
    },
    "pairs": {"least_price": "desk kind x y", "repair_row": "desk kind x y", "repair_price": "desk kind x y value"},
    "plans": {
        "no_plan": "tool", "row_plan": "tools", "both_plan": "one other", "columns_of": "desk plan history",
        "stands_of": "desk plan history", "heap_of": "desk plan history",
    },
    "reach": {"what_comes": "desk", "sorts": "desk", "closed_holds": "desk value", "ready": "desk wants"},
    "worlds": {
        "need_history": "desk value", "tried": "desk world one", "worlds_along": "desk history", "world_behind": "desk history",
        "outcomes": "desk history", "all_done": "desk history", "thing_rows": "desk history",
        "alike_histories": "desk one other", "normal_history": "desk history", "alike_count": "desk history",
        "interleaved": "desk things rows turns",
    },
    "houses": {"seam_of": "house", "join_houses": "house other", "comes_with": "house lots", "closed_lots": "house"},
    "nets": {
        "net_moves": "desk plan done", "net_steps": "desk plan standing", "net_led": "desk plan moves",
        "run_of": "desk plan history", "history_of": "desk plan moves",
    },
    "steps": {"steps": "desk sort", "played": "desk sort step", "beginnings": "desk tool"},
    "texts": {"desk_text": "desk", "read_desk": "text", "history_text": "desk history", "read_history": "desk text"},
    "twins": {
        "need_struck": "history value", "less": "desk history struck", "twin_behind": "desk history struck",
        "both": "desk history struck", "unlike_things": "world twin", "apart": "desk history struck",
        "otherwise": "desk history struck", "trail": "desk history number", "lot_worlds": "desk history waiting",
    },
    "guards": {
        "all_guards": "desk offers", "with_bought": "desk offers lot", "guard_table": "desk offers lot",
        "value_of": "desk offers tool lot", "is_kept": "value promise", "serves": "desk offers tool lot promise",
    },
    "holding": {
        "fresh_ledger": "desk things", "ledger_of": "desk history waiting", "tried_ledger": "desk ledger one waits",
        "yes_ledger": "desk ledger place", "no_ledger": "desk ledger place", "edge_price": "desk ledger lot place",
        "bad_edges": "desk ledger", "bill": "desk ledger", "lets": "desk ledger one waits bound",
        "dearest_order": "desk ledger lot", "cheapest_order": "desk ledger lot",
    },
    "notes": {"noted": "desk kind note look", "leaning": "desk tool note lets eats"},
    "silence": {
        "need_rules": "desk value", "rule_serves": "desk tool waits", "is_silent": "desk rules", "loud_run": "desk rules",
        "loud_holds": "desk rules value",
    },
    "tables": {
        "base": "desk number sort", "table": "desk number", "table_holds": "desk number value", "worst_of": "desk tool number",
    },
    "walls": {
        "wall": "desk plan goal", "is_calm": "desk plan goal", "wall_holds": "desk plan goal value",
        "late_story": "desk plan goal", "late_story_holds": "desk plan goal history",
    },
    "asking": {
        "least_yeses": "desk ledger one waits bound", "broken_lots": "desk ledger one waits bound",
        "sure_asks": "desk ledger one waits bound", "asks_needed": "desk ledger one waits bound",
        "ask_tree": "desk ledger one waits bound", "tree_asks": "desk ledger one waits bound value",
        "firm_table": "desk ledger one waits bound", "firm_holds": "desk ledger one waits bound value",
    },
    "contracts": {
        "contract_table": "house contract", "contract_holds": "house value", "least_contract": "house other",
    },
    "counts": {"counted": "desk history struck number"},
    "prices": {
        "price_of": "desk plan heap", "closed_lot": "desk plan", "worst": "desk plan",
        "closed_lot_holds": "desk plan most value",
    },
    "reaching": {
        "is_safe": "desk tool", "bad_way": "desk tool", "way_holds": "desk tool value", "ring": "desk tool number",
        "ring_holds": "desk tool number value", "reached": "desk tool number least",
    },
    "bridge": {"totalled": "desk", "bridge": "desk tool"},
    "exact": {"exact": "desk number", "exact_holds": "desk number value"},
    "faces": {
        "comes_to": "house waits lots sort", "order_of": "sorts", "face_of": "house waits", "is_beside": "face house tool waits",
        "join_faces": "face other", "no_worse": "face other",
    },
    "fallen": {
        "sorts_that_fall": "desk tool", "most_fallen": "desk tool", "fallen_paper": "desk tool",
        "fallen_holds": "desk tool most value",
    },
    "late": {"late_history": "desk offers tool lot promise"},
    "nos": {
        "group_worst": "desk tools many number", "group_reached": "desk tools many number least",
        "still": "desk history struck number", "paid": "desk history order",
    },
    "orders": {"row_worst": "desk tools", "order_matters": "desk one other", "order_story": "desk one other"},
    "rings": {"growing_ring": "desk plan", "growing_ring_holds": "desk plan value", "ring_history": "desk plan value times"},
    "breaks": {
        "is_break": "desk offers tool lot promise", "break_story": "desk offers tool lot promise",
        "story_holds": "desk offers tool lot promise story", "cuts": "desk offers sort", "breaks_table": "desk offers",
    },
    "parting": {"parting": "house other", "parting_holds": "house other value"},
    "crossings": {
        "crossings_of": "lots", "least_lots": "desk offers tool promise", "least_breaks": "desk offers tool promise",
        "lists_hold": "desk offers tool promise lots breaks",
    },
    "bought": {
        "stairs": "desk offers tool", "lots_from": "rows promise", "whole_breaks": "desk offers tools promise",
        "whole_lots": "desk offers tools promise", "cheapest": "desk offers tools promise costs",
    },
}
CLASSES = {
    "desks": {"Desk": ("kinds tools repairs", {"behind": "tool befores"})},
    "houses": {"House": ("desk many", {})},
    "bench": {"Bench": ("", {"say": "command"})},
    "live": {"Live": ("desk rules bound", {
        "thing": "kind", "ask": "agent tool things", "history": "", "waiting": "", "world": "", "bill": "", "paid": "", "log": "",
        "yes": "number", "no": "numbers", "frees": "agent tool things", "asks": "agent tool things",
    })},
}


def parameters(call):
    return " ".join(inspect.signature(call).parameters)


def defined_in(module):
    with open(os.path.join(FOLDER, module + ".py"), encoding="utf-8") as file:
        return {one.name: one for one in ast.parse(file.read()).body if isinstance(one, (ast.FunctionDef, ast.ClassDef))}


class Interface(unittest.TestCase):
    def test_functions(self):
        for module, told in FUNCTIONS.items():
            loaded = importlib.import_module("lateno." + module)
            for name, names in told.items():
                self.assertIn(name, defined_in(module))
                self.assertEqual(parameters(getattr(loaded, name)), names, name)

    def test_classes_and_their_methods(self):
        for module, told in CLASSES.items():
            loaded = importlib.import_module("lateno." + module)
            for name, (names, methods) in told.items():
                self.assertEqual(parameters(getattr(loaded, name)), names)
                own = [one.name for one in defined_in(module)[name].body if isinstance(one, ast.FunctionDef)]
                for method, rest in methods.items():
                    self.assertIn(method, own)
                    self.assertEqual(parameters(getattr(getattr(loaded, name), method)), ("self " + rest).strip())


class Readme(unittest.TestCase):
    def test_it_tells_how_to_use_and_to_test(self):
        with open(os.path.join(os.path.dirname(FOLDER), "README.md"), encoding="utf-8") as file:
            text = file.read()
        self.assertIn("bash .ci/run", text)
        code = [part.split("```")[0] for part in text.split("```python\n")[1:]]
        self.assertTrue(code)
        for part in code:
            exec(compile(part, "README.md", "exec"), {})


if __name__ == "__main__":
    unittest.main()
