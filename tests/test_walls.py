"""[26], [27]: walls, calm plans, papers of walls, stories."""

import collections
import itertools
import unittest
import unittest.mock

from lateno.desks import Desk
from lateno.errors import InvalidHistory, InvalidPlan, InvalidSize
from lateno.nets import net_led, net_moves, run_of
from lateno.plans import both_plan, columns_of, no_plan, row_plan
from lateno.reach import what_comes
from lateno.walls import is_calm, late_story, late_story_holds, wall, wall_holds
from plan_samples import above, are_standings, fitting, possible_tools, random_fear, random_plan_history
from samples import COPY, LOCK, MAIL, Case, as_lists, odd_values, random_desk, spoilt
from table_samples import price_again
from test_nets import led_again

FIRST = ((), ())


def is_feared(desk, plan, goal, sort):
    kind, row = sort
    if goal is None:
        return any(price_again(desk, kind, row[parent], row[j + 1]) is None for j, (parent, _) in enumerate(plan[1]))
    return row[goal[0]] != row[goal[1]]


def goals_again(desk, plan, goal):
    strikes = tuple(range(len(plan[0])))
    return [(strikes, (sort,)) for sort in sorted(fitting(plan, what_comes(desk), strikes)) if is_feared(desk, plan, goal, sort)]


def least(standings):
    """Those above no other one; only such as share a sort are compared."""
    kept, by_sort = set(), collections.defaultdict(list)
    for done, heap in sorted(standings, key=lambda one: len(one[1])):
        others = by_sort[(done, ())] + [one for sort in set(heap) for one in by_sort[(done, sort)]]
        if not any(above((done, heap), one) for one in others):
            kept.add((done, heap))
            by_sort[(done, heap[0] if heap else ())].append((done, heap))
    return kept


def flows_again(desk, plan):
    """For each lot of strikes all (strikes ahead, takes, gives) of moves that lead there."""
    found = collections.defaultdict(set)
    for many in range(len(plan[0]) + 1):
        for done in itertools.combinations(range(len(plan[0])), many):
            for tool, rows, strike in net_moves(desk, plan, done):
                takes = tuple(sorted((kind, row) for kind, row in zip(desk.tools[tool][1], rows) if len(set(row)) > 1))
                behind, gives = led_again(desk, plan, (done, takes), (tool, rows, strike))
                found[behind].add((done, takes, gives))
    return found


def back_again(plan, comes, flows, standing):
    """All that is back by one move."""
    done, heap = standing
    found = set()
    for ahead, takes, gives in flows[done]:
        left = collections.Counter(heap) - collections.Counter(gives)
        if all(sort in fitting(plan, comes, ahead) for sort in left):
            found.add((ahead, tuple(sorted(takes + tuple(left.elements())))))
    return found


def layers_again(desk, plan, goal):
    """The layers of [26], from the goals to the wall; stops behind one of more than 400."""
    comes, flows = what_comes(desk), flows_again(desk, plan)
    layers = [least(set(goals_again(desk, plan, goal)))]
    while len(layers[-1]) <= 400:
        found = set(layers[-1])
        for one in layers[-1]:
            found |= back_again(plan, comes, flows, one)
        found = least(found)
        if found == layers[-1]:
            break
        layers.append(found)
    return layers


def paper_again(desk, plan, goal, value):
    """[27] told again for any value."""
    comes = what_comes(desk)
    if not are_standings(desk, plan, value) or FIRST in value:
        return False
    flows = flows_again(desk, plan)
    wanted = set(goals_again(desk, plan, goal))
    for one in value:
        wanted |= back_again(plan, comes, flows, one)
    return all(any(above(one, other) for other in value) for one in wanted)


class Walls(Case):
    def test_by_hand(self):
        self.same(wall(MAIL, no_plan(0), None), (
            ((0,), ((0, (0, 1)),)), ((0,), ((0, (0, 2)),)), ((0,), ((0, (1, 2)),)), ((0,), ((0, (2, 1)),))))
        self.same(is_calm(MAIL, no_plan(0), None), True)
        self.same(is_calm(MAIL, no_plan(0), (0, 1)), False)
        self.same(wall(desk=MAIL, plan=as_lists(no_plan(0)), goal=[0, 1])[0], FIRST)
        self.same(is_calm(LOCK, both_plan(1, 0), (3, 4)), False)
        self.same(is_calm(LOCK, both_plan(1, 0), [1, 2]), False)
        self.same(is_calm(LOCK, both_plan(1, 1), (3, 4)), True)
        self.same(wall(COPY, no_plan(0), None)[0], FIRST)

    def test_what_takes_two(self):
        # only two that are 1 here and 0 in the twin turn there, to what nothing puts right
        desk = Desk((("a", 3),), (
            ("set", (0,), (((0,), (1,)),)), ("pair", (0, 0), (((0, 0), (2, 2)), ((1, 1), (1, 1)))),
        ), ((0, 0, 1, 1), (0, 1, 0, 1), (0, 2, 0, 1), (0, 2, 1, 1)))
        found = wall(desk, no_plan(0), None)
        self.assertIn(((0,), ((0, (1, 0)), (0, (1, 0)))), found)
        self.assertEqual(set(found), layers_again(desk, no_plan(0), None)[-1])
        self.same(is_calm(desk, no_plan(0), None), True)
        self.same(wall_holds(desk, no_plan(0), None, found), True)
        self.same(wall_holds(desk, no_plan(0), None, found[::-1]), True)
        self.same(wall_holds(desk, no_plan(0), None, tuple(one for one in found if len(one[1]) < 2)), False)
        self.same(is_calm(desk, row_plan((0, 0)), None), True)
        self.same(is_calm(desk, ((0, 0), ((0, 0), (1, 1))), (0, 2)), False)

    def test_heaps_of_two(self):
        rng = self.rng(6)
        met = 0
        for _ in range(500):
            rows = [(one, (rng.randrange(3), rng.randrange(3))) for one in itertools.product(range(3), repeat=2)
                    if rng.random() < 0.4 or one in ((0, 0), (1, 1))]
            ways = [(0, x, y, 1) for x, y in itertools.permutations(range(3), 2) if rng.random() < 0.7]
            desk = Desk((("a", 3),), (("set", (0,), (((0,), (1,)),)), ("pair", (0, 0), rows)), ways)
            plan = no_plan(rng.randrange(2))
            found = wall(desk, plan, None)
            if any(len(heap) > 1 for _, heap in found):
                met += 1
                self.assertEqual(set(found), layers_again(desk, plan, None)[-1])
                if is_calm(desk, plan, None):
                    self.same(wall_holds(desk, plan, None, found), True)
                    for at in range(len(found)):
                        self.same(wall_holds(desk, plan, None, found[:at] + found[at + 1:]), False)
        self.assertGreater(met, 0)

    def test_against_layers_told_again(self):
        rng = self.rng(1)
        seen = {}
        for _ in range(250):
            desk, plan, goal = random_fear(rng)
            layers = layers_again(desk, plan, goal)
            if len(layers[-1]) > 400:
                self.fails(InvalidSize, "wall", wall, desk, plan, goal)
                continue
            found = wall(desk, plan, goal)
            self.same(found, tuple(sorted(layers[-1])))
            calm = FIRST not in layers[-1]
            self.same(is_calm(desk, plan, goal), calm)
            story = late_story(desk, plan, goal)
            if calm:
                self.same(story, None)
                self.same(wall_holds(desk, plan, goal, found), True)
            else:
                self.same(wall_holds(desk, plan, goal, found), False)
                self.same(late_story_holds(desk, plan, goal, story), True)
                moves = run_of(desk, plan, story)
                self.same(net_led(desk, plan, moves)[0], tuple(range(len(plan[0]))))
                self.assertEqual(len(moves), [FIRST in layer for layer in layers].index(True))
            seen[(calm, goal is None)] = seen.get((calm, goal is None), 0) + 1
        self.assertEqual(len(seen), 4)
        self.assertGreater(min(seen.values()), 10)

    def test_none_above_another_and_all_above_lead_on(self):
        rng = self.rng(2)
        for _ in range(40):
            desk, plan, goal = random_fear(rng)
            found = wall(desk, plan, goal)
            for one, other in itertools.permutations(found, 2):
                self.assertFalse(above(one, other))
            # a history that ends in fear goes through standings above the wall alone, one that can't end so through none
            history = random_plan_history(rng, desk, plan)
            if history is None:
                continue
            feared = late_story_holds(desk, plan, goal, history)
            moves = run_of(desk, plan, history)
            for at in range(len(moves) + 1):
                standing = net_led(desk, plan, moves[:at])
                if feared:
                    self.assertTrue(any(above(standing, one) for one in found))
            if feared:
                self.same(is_calm(desk, plan, goal), False)


class Papers(Case):
    def test_spoilt_walls(self):
        rng = self.rng(3)
        seen = {True: 0, False: 0}
        tried = 0
        while tried < 50:
            desk, plan, goal = random_fear(rng, 80)
            if not is_calm(desk, plan, goal):
                continue
            found = wall(desk, plan, goal)
            if not 1 <= len(found) <= 30:
                continue
            tried += 1
            self.same(wall_holds(desk, plan, goal, found[::-1] + found[:2]), True)
            self.same(wall_holds(desk, plan, goal, list(found)), False)
            self.same(wall_holds(desk, plan, goal, found + (FIRST,)), False)
            for at in range(min(4, len(found))):
                self.same(wall_holds(desk, plan, goal, found[:at] + found[at + 1:]), False)
            for _ in range(12):
                value = spoilt(rng, found)
                want = paper_again(desk, plan, goal, value)
                self.same(wall_holds(desk, plan, goal, value), want)
                seen[want] += 1
            at = rng.randrange(len(found))
            done, heap = found[at]
            greater = found[:at] + ((done, tuple(sorted(heap + heap[:1]))),) + found[at + 1:]
            smaller = found[:at] + ((done, heap[1:]),) + found[at + 1:]
            for value in (greater, smaller, found + ((done, tuple(sorted(heap + heap))),)):
                self.same(wall_holds(desk, plan, goal, value), paper_again(desk, plan, goal, value))
        self.assertGreater(min(seen.values()), 10)

    def test_any_value(self):
        for desk, plan, goal in ((MAIL, no_plan(0), None), (LOCK, both_plan(1, 1), (3, 4))):
            for value in odd_values() + [((),), (((), ()),), ((0, ()),), (((0,), ((0, (0, 1)),), ()),)]:
                self.same(wall_holds(desk, plan, goal, value), False)
        found = wall(MAIL, no_plan(0), None)
        self.same(wall_holds(desk=MAIL, plan=no_plan(0), goal=None, value=found), True)
        # nothing is feared where all can be put right: no standing at all is enough
        all_right = Desk(MAIL.kinds, MAIL.tools, [(0, x, y, 1) for x in range(3) for y in range(3) if x != y])
        self.same(wall(all_right, no_plan(0), None), ())
        self.same(wall_holds(all_right, no_plan(0), None, ()), True)
        self.same(wall_holds(all_right, no_plan(0), None, []), False)
        self.same(wall_holds(MAIL, no_plan(0), None, ()), False)
        for turned in (((False,), found[0][1]), ([0], found[0][1]), ((0, 0), found[0][1]), ((1,), found[0][1]), ((0,), list(found[0][1])),
                       ((0,), ((0, (0, True)),)), ((0,), ((False, (0, 1)),)), ((0,), ((0, [0, 1]),)), ((0,), ([0, (0, 1)],)),
                       ((0,), ((0, (0, 3)),)), ((0,), ((0, (0, 1, 1)),)), ((0,), ((0, (1, 1)),)), ((0,), ((1, (0, 1)),)),
                       ((), ((0, (0, 1)),)), ((0,), ((0, (0, 2)), (0, (0, 1))))):
            self.same(wall_holds(MAIL, no_plan(0), None, found + (turned,)), False)

    def test_rows_that_do_not_come(self):
        desk = Desk((("a", 3),), (("set", (0,), (((0,), (1,)),)),), ())
        found = wall(desk, no_plan(0), None)
        self.same(found, (FIRST, ((0,), ((0, (0, 1)),)), ((0,), ((0, (1, 0)),))))
        calm = Desk((("a", 3),), desk.tools, ((0, 1, 0, 1),))
        paper = wall(calm, no_plan(0), None)
        self.same(paper, (((0,), ((0, (0, 1)),)),))
        self.same(wall_holds(calm, no_plan(0), None, paper), True)
        self.same(wall_holds(calm, no_plan(0), None, paper + (((0,), ((0, (0, 2)),)),)), False)
        self.same(wall_holds(calm, no_plan(0), None, paper + (((0,), ((0, (1, 0)),)),)), False)


class Stories(Case):
    def test_by_hand(self):
        story = late_story(LOCK, both_plan(1, 0), (3, 4))
        self.same(len(run_of(LOCK, both_plan(1, 0), story)), 3)
        self.same(late_story_holds(LOCK, both_plan(1, 0), (3, 4), story), True)
        told = ((0,), ((0, (0,)), (1, (0,)), (2, (0,))), (1, 0))
        self.same(columns_of(LOCK, both_plan(1, 0), told)[0], (2, 1, 2, 0, 2))
        self.same(late_story_holds(LOCK, both_plan(1, 0), [3, 4], as_lists(told)), True)
        self.same(late_story_holds(LOCK, both_plan(1, 0), (0, 2), told), False)
        self.same(late_story_holds(desk=LOCK, plan=no_plan(1), goal=None, history=(told[0], told[1], (1,))), True)
        self.same(late_story(MAIL, no_plan(0), None), None)

    def test_histories_that_are_asked(self):
        rng = self.rng(4)
        seen = {True: 0, False: 0}
        while min(seen.values()) < 40:
            desk, plan, goal = random_fear(rng, 3000)
            history = random_plan_history(rng, desk, plan)
            if history is None:
                continue
            rows = columns_of(desk, plan, history)
            want = any(len(set(row)) > 1 and is_feared(desk, plan, goal, (kind, row)) for kind, row in zip(history[0], rows))
            self.same(late_story_holds(desk, plan, goal, history), want)
            seen[want] += 1


class Errors(Case):
    CALLS = ((wall, ()), (is_calm, ()), (wall_holds, (None,)), (late_story, ()), (late_story_holds, (None,)))

    def wrong(self, error, at, desk, plan, goal):
        for call, rest in self.CALLS:
            self.fails(error, at, call, desk, plan, goal, *rest)

    def test_plans_then_nets_then_goals_then_histories(self):
        self.wrong(InvalidPlan, ("plan", -1), MAIL, 0, 0)
        self.wrong(InvalidPlan, ("tools", 0), MAIL, no_plan(2), 0)
        self.wrong(InvalidPlan, ("columns", 0), MAIL, ((0,), ((1, 0),)), 0)
        large = Desk((("a", 4),), (("up", (0, 0), (((0, 0), (1, 2)), ((1, 1), (2, 3)), ((1, 2), (3, 3)))),), ())
        self.wrong(InvalidSize, "net", large, row_plan((0, 0)), 0)
        self.wrong(InvalidPlan, ("tools", 1), large, row_plan((0, 1)), 0)
        for value in odd_values() + [(0, 2), (1, 0), (1, 1), (0, 0), (-1, 1), (0, True), (0, 1, 1), (0,), [0, 2], "01"]:
            if value is not None and value != [0, 1]:
                self.wrong(InvalidPlan, ("goal", -1), MAIL, no_plan(0), value)
        self.fails(InvalidHistory, ("history", -1), late_story_holds, MAIL, no_plan(0), None, None)
        self.fails(InvalidHistory, ("deeds", 1), late_story_holds, MAIL, no_plan(0), (0, 1), ((0,), ((0, (0,)), (0, (0,))), (0,)))
        self.fails(InvalidHistory, ("struck", 0), late_story_holds, MAIL, no_plan(0), (0, 1), ((0,), ((0, (0,)),), (1,)))

    def test_too_many_standings(self):
        desk = Desk((("a", 4),), (("up", (0,), [((x,), (x + 1,)) for x in range(3)]),), ())
        for call in (wall, is_calm, late_story):
            self.fails(InvalidSize, "wall", call, desk, both_plan(0, 0), None)
        # judges never
        self.same(wall_holds(desk, both_plan(0, 0), None, ()), False)
        self.same(late_story_holds(desk, both_plan(0, 0), None, ((0, 0), ((0, (0,)), (0, (1,))), (0, 1))), True)

    def test_layers_of_just_400_and_of_401(self):
        up = lambda name, kind, many: (name, (kind,), [((x,), (x + 1,)) for x in range(many - 1)])
        plan = both_plan(0, 1)
        desk = Desk((("a", 3), ("b", 3)), (up("upa", 0, 3), up("upb", 1, 3)),
                    ((0, 1, 2, 1), (0, 2, 0, 1), (0, 2, 1, 1), (1, 0, 2, 1), (1, 2, 0, 1)))
        layers = layers_again(desk, plan, None)
        self.same([len(layer) for layer in layers], [354, 396, 400])
        self.same(wall(desk, plan, None), tuple(sorted(layers[-1])))
        self.assertIs(type(is_calm(desk, plan, None)), bool)
        desk = Desk((("a", 2), ("b", 3), ("c", 3)), (up("upa", 0, 2), up("upb", 1, 3), up("upc", 2, 3)),
                    ((0, 0, 1, 1), (1, 0, 2, 1), (1, 2, 0, 1), (1, 2, 1, 1), (2, 0, 1, 1), (2, 1, 0, 1), (2, 2, 0, 1), (2, 2, 1, 1)))
        layers = layers_again(desk, plan, None)
        self.same([len(layer) for layer in layers], [328, 400, 401])
        for call in (wall, is_calm, late_story):
            self.fails(InvalidSize, "wall", call, desk, plan, None)
        self.same(wall_holds(desk, plan, None, tuple(layers[-1])), False)

    def test_layers_decide(self):
        rng = self.rng(5)
        seen = {True: 0, False: 0}
        for _ in range(2000):
            desk = random_desk(rng, kinds=3, states=rng.choice([3, 4]), tools=4, roles=1, fill=rng.choice([0.2, 0.5, 0.8]))
            if not possible_tools(desk):
                continue
            tools = possible_tools(desk)
            one, other = rng.choice(tools), rng.choice(tools)
            plan = rng.choice([both_plan(one, other), ((one, other), ((0, 0), (0, 1), (1, 1)))])
            goal = rng.choice([None, (0, 1), (1, 3)])
            with unittest.mock.patch("lateno.walls.MOST_STANDINGS", 10 ** 9):
                try:
                    size = len(wall(desk, plan, goal))
                except InvalidSize:
                    continue
            if not 300 < size < 900 or seen[size <= 400] == 2:
                continue
            layers = layers_again(desk, plan, goal)
            fits = len(layers[-1]) <= 400
            seen[fits] += 1
            if fits:
                self.assertEqual(set(wall(desk, plan, goal)), layers[-1])
            else:
                self.fails(InvalidSize, "wall", wall, desk, plan, goal)
                self.fails(InvalidSize, "wall", is_calm, desk, plan, goal)
        self.assertGreater(min(seen.values()), 0, seen)


if __name__ == "__main__":
    unittest.main()
