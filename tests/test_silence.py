"""[51]: rules, which rule serves, silent desks, loud runs."""

import unittest

from lateno.desks import Desk
from lateno.errors import InvalidRules
from lateno.holding import bill, fresh_ledger, tried_ledger
from lateno.silence import is_silent, loud_holds, loud_run, need_rules, rule_serves
from ledger_samples import random_room
from samples import COPY, LOCK, MAIL, Case, as_lists, is_tuples, no_bools, odd_values, random_history, random_try, spoilt
from table_samples import BOUGHT, comes_again, given, lines_again, play, price_again

LOUD = ((0,), ((0, (0,)), (1, (0,)), (0, (0,))), 0)


def serves_again(desk, tool, waits):
    """Whether no row of steps by tools that don't wait leads from a beginning of the tool to a bad pair."""
    told = comes_again(desk)
    lines = lines_again(desk, ("price",))
    left = []
    _, roles, rows = desk.tools[tool]
    for before, behind in rows:
        if all(state in told[kind] for kind, state in zip(roles, before)):
            left += given(zip(roles, behind, before))
    seen = set(left)
    while left:
        sort = left.pop()
        if price_again(desk, *sort) is None:
            return False
        for step, _, pairs in lines[sort]:
            if step[0] not in waits:
                more = [pair for pair in given(pairs) if pair not in seen]
                seen |= set(more)
                left += more
    return True


def wrong_rules(desk, value):
    """Told again: the first wrong rule of any value, -1 for no sequence, None for rules."""
    if type(value) not in (list, tuple):
        return -1
    many = len(desk.tools)
    for at, rule in enumerate(value):
        if type(rule) not in (list, tuple) or len(rule) != 2 or type(rule[0]) is not int or not 0 <= rule[0] < many:
            return at
        if any(other[0] >= rule[0] for other in value[:at]) or type(rule[1]) not in (list, tuple):
            return at
        for place, one in enumerate(rule[1]):
            if type(one) is not int or not 0 <= one < many or any(other >= one for other in rule[1][:place]):
                return at
    return None


def loud_again(desk, rules, value):
    """[51] told again for any value."""
    if type(value) is not tuple or len(value) != 3 or not is_tuples(value) or not no_bools(value):
        return False
    things, tries, number = value
    if type(things) is not tuple or type(tries) is not tuple or type(number) is not int or not 0 <= number < len(tries):
        return False
    if any(type(kind) is not int or not 0 <= kind < len(desk.kinds) for kind in things):
        return False
    for one in tries:
        if type(one) is not tuple or len(one) != 2 or type(one[0]) is not int or not 0 <= one[0] < len(desk.tools):
            return False
        roles = desk.tools[one[0]][1]
        if type(one[1]) is not tuple or len(one[1]) != len(roles) or len(set(one[1])) != len(one[1]):
            return False
        if any(type(member) is not int or not 0 <= member < len(things) or things[member] != kind for member, kind in zip(one[1], roles)):
            return False
    waits = {rule[0]: tuple(rule[1]) for rule in rules}
    if tries[number][0] not in waits or any(one[0] in waits[tries[number][0]] for one in tries[number + 1:]):
        return False
    world, twin = [0] * len(things), [0] * len(things)
    for at, (tool, members) in enumerate(tries):
        for states, skipped in ((world, False), (twin, at == number)):
            if not skipped:
                for member, state in zip(members, play(desk, tool, [states[member] for member in members])[0]):
                    states[member] = state
    return any(price_again(desk, kind, x, y) is None for kind, x, y in zip(things, world, twin))


def random_rules(rng, desk):
    found = []
    for tool in range(len(desk.tools)):
        if rng.random() < 0.5:
            found.append((tool, tuple(other for other in range(len(desk.tools)) if rng.random() < 0.5)))
    return tuple(found)


class Rules(Case):
    def test_right_ones(self):
        self.same(need_rules(MAIL, ()), ())
        self.same(need_rules(MAIL, [[0, [0, 1]], [1, []]]), ((0, (0, 1)), (1, ())))
        self.same(need_rules(desk=MAIL, value=((1, (0,)),)), ((1, (0,)),))

    def test_any_value(self):
        rng = self.rng(1)
        base = [((0, (1,)), (1, (0, 1))), [[1, [0]]], ((0, ()),)]
        values = odd_values() + [((value, ()),) for value in odd_values()] + [((0, value),) for value in odd_values()]
        values += [((0, ()), (0, ())), ((1, ()), (0, ())), ((0, ()), (2, ())), ((0, (2,)),), ((0, (1, 0)),), ((0, (1, 1)),), ((0, (True,)),)]
        values += [spoilt(rng, rng.choice(base)) for _ in range(800)]
        for value in values:
            at = wrong_rules(MAIL, value)
            if at is None:
                self.same(need_rules(MAIL, value), tuple((tool, tuple(waits)) for tool, waits in value))
                self.assertIs(type(is_silent(MAIL, value)), bool)
            else:
                for call, rest in ((need_rules, ()), (is_silent, ()), (loud_run, ()), (loud_holds, (LOUD,))):
                    self.fails(InvalidRules, at, call, MAIL, value, *rest)
        self.fails(InvalidRules, 1, need_rules, MAIL, ((0, ()), (0, ())))
        self.fails(InvalidRules, 1, need_rules, MAIL, ((1, ()), (0, ())))

    def test_one_rule(self):
        for value in odd_values() + [2, -1]:
            if type(value) is not int or not 0 <= value < 2:
                self.fails(InvalidRules, 0, rule_serves, MAIL, value, ())
            if type(value) not in (list, tuple) or value not in ((), (0,), [], [0]):
                self.fails(InvalidRules, 0, rule_serves, MAIL, 0, value)
        self.fails(InvalidRules, 0, rule_serves, MAIL, 0, (1, 0))
        self.fails(InvalidRules, 0, rule_serves, MAIL, 0, (0, 2))


class Serves(Case):
    def test_by_hand(self):
        self.same(rule_serves(MAIL, 0, ()), False)
        self.same(rule_serves(MAIL, 0, (0,)), True)
        self.same(rule_serves(MAIL, 0, [1]), True)
        self.same(rule_serves(desk=MAIL, tool=1, waits=(0, 1)), False)
        self.same(rule_serves(BOUGHT, 0, ()), True)
        self.same(rule_serves(BOUGHT, 1, ()), True)
        self.same(rule_serves(COPY, 0, (0, 1)), False)
        self.same(is_silent(MAIL, ((0, (1,)),)), True)
        self.same(is_silent(MAIL, [[0, [1]], [1, [0, 1]]]), False)
        self.same(is_silent(desk=MAIL, rules=()), True)
        self.same(is_silent(BOUGHT, ((0, ()), (1, ()))), True)
        self.same(loud_run(MAIL, ((0, (1,)),)), None)
        self.same(loud_run(MAIL, ()), None)

    def test_against_telling_again(self):
        rng = self.rng(2)
        seen = {True: 0, False: 0}
        for _ in range(600):
            desk = random_room(rng)
            rules = random_rules(rng, desk)
            each = [serves_again(desk, tool, waits) for tool, waits in rules]
            self.same([rule_serves(desk, tool, waits) for tool, waits in rules], each)
            self.same(is_silent(desk, as_lists(rules)), all(each))
            run = loud_run(desk, rules)
            seen[run is None] += 1
            self.same(run is None, all(each))
            if run is not None:
                self.same(loud_again(desk, rules, run), True)
                self.same(loud_holds(desk, rules, run), True)
                self.assertTrue(is_tuples(run))
        self.assertGreater(min(seen.values()), 50)

    def test_others_stand_ready_by_tools_that_wait(self):
        desk = Desk((("a", 3), ("b", 2)), (
            ("go", (0,), (((0,), (1,)),)), ("push", (0, 1), (((1, 1), (2, 1)),)), ("mark", (1,), (((0,), (1,)),)),
        ), ((0, 1, 0, 1), (0, 2, 1, 1)))
        far = Desk(desk.kinds, desk.tools, ((0, 1, 0, 1),))
        self.same(rule_serves(desk, 0, (2,)), True)
        self.same(rule_serves(far, 0, (0, 2)), False)
        self.same(rule_serves(far, 0, (0, 1)), True)
        run = loud_run(far, ((0, (0, 2)),))
        self.same(loud_holds(far, ((0, (0, 2)),), run), True)
        # mark waits: so it was tried ahead
        self.assertLess([tool for tool, _ in run[1]].index(2), run[2])

    def test_a_silent_desk_never_holds_and_a_loud_one_does(self):
        rng = self.rng(3)
        held = 0
        for _ in range(150):
            desk = random_room(rng)
            rules = random_rules(rng, desk)
            waits_of = dict(rules)
            if is_silent(desk, rules):
                things = random_history(rng, desk, 4, 0)[0]
                ledger, waiting = fresh_ledger(desk, things), []
                for _ in range(10):
                    one = random_try(rng, desk, things)
                    if one is None or any(one[0] in waits_of[tool] for tool in waiting):
                        continue
                    waits = one[0] in waits_of and len(waiting) < 6
                    if one[0] in waits_of and not waits:
                        continue
                    ledger = tried_ledger(desk, ledger, one, waits)
                    waiting += [one[0]] * waits
                    self.assertIsNotNone(bill(desk, ledger))
                held += 1
        self.assertGreater(held, 30)


class Loud(Case):
    def test_by_hand(self):
        rules = ((0, ()),)
        self.same(loud_holds(MAIL, rules, LOUD), True)
        self.same(loud_holds(desk=MAIL, rules=[[0, []]], value=LOUD), True)
        self.same(loud_holds(MAIL, ((0, (1,)),), LOUD), False)
        self.same(loud_holds(MAIL, ((1, ()),), LOUD), False)
        self.same(loud_holds(MAIL, ((0, ()), (1, ())), LOUD[:2] + (1,)), True)
        self.same(loud_holds(MAIL, (), LOUD), False)
        self.same(loud_holds(MAIL, rules, LOUD[:2] + (2,)), False)
        self.same(loud_holds(BOUGHT, rules, LOUD), False)
        # a tool that waits may have been tried ahead, or be the tried one itself
        self.same(loud_holds(LOCK, ((2, (0, 1)),), ((0,), ((0, (0,)), (1, (0,)), (2, (0,))), 2)), False)
        self.same(loud_holds(COPY, ((0, (0, 1)),), ((0, 0), ((0, (0,)), (1, (0, 1)), (0, (1,))), 0)), False)
        self.same(loud_holds(COPY, ((0, (0, 1)),), ((0, 0), ((0, (0,)), (0, (1,))), 1)), True)

    def test_any_value_and_spoilt_runs(self):
        rng = self.rng(4)
        rules = ((0, ()),)
        for value in odd_values() + [as_lists(LOUD), list(LOUD), (list(LOUD[0]),) + LOUD[1:], (LOUD[0], list(LOUD[1]), 0),
                                     (LOUD[0], (LOUD[1][0], [1, (0,)], LOUD[1][2]), 0), (LOUD[0], (LOUD[1][0], (1, [0]), LOUD[1][2]), 0),
                                     LOUD[:2] + (False,), LOUD[:2] + (3,), LOUD[:2] + (-1,), LOUD[:2] + (None,), LOUD + (0,), LOUD[:2],
                                     ((False,),) + LOUD[1:], (LOUD[0], ((False, (0,)),) + LOUD[1][1:], 0)]:
            self.same(loud_holds(MAIL, rules, value), False)
        seen = {True: 0, False: 0}
        for _ in range(500):
            desk = random_room(rng)
            rules = random_rules(rng, desk)
            run = loud_run(desk, rules)
            if run is None:
                continue
            for value in [spoilt(rng, run) for _ in range(4)] + [run[:2] + (number,) for number in range(len(run[1]))]:
                want = loud_again(desk, rules, value)
                self.same(loud_holds(desk, rules, value), want)
                seen[want] += 1
        self.assertGreater(min(seen.values()), 50)

    def test_histories(self):
        rng = self.rng(5)
        seen = {True: 0, False: 0}
        for _ in range(2000):
            desk = random_room(rng)
            rules = random_rules(rng, desk)
            things, tries = random_history(rng, desk, 4, 6)
            for number in range(len(tries)):
                want = loud_again(desk, rules, (things, tries, number))
                self.same(loud_holds(desk, rules, (things, tries, number)), want)
                seen[want] += 1
        self.assertGreater(min(seen.values()), 30)


if __name__ == "__main__":
    unittest.main()
