"""[28], and what [29] says of too many standings: prices of heaps, worsts of plans, closed lots."""

import unittest

from lateno.desks import Desk
from lateno.errors import InvalidPlan, InvalidSize
from lateno.nets import net_moves, net_steps
from lateno.plans import both_plan, heap_of, no_plan, row_plan
from lateno.prices import closed_lot, closed_lot_holds, price_of, worst
from lateno.reach import what_comes
from lateno.walls import is_calm
from plan_samples import above, are_standings, fitting, random_fear, random_plan_history
from samples import LOCK, MAIL, Case, as_lists, odd_values, spoilt
from table_samples import BOUGHT, COPIED, price_again
from test_nets import led_again

FIRST = ((), ())
BOUGHT_LOT = (((), ()), ((0,), ((0, (1, 0)),)), ((0,), ((0, (2, 0)),)))


def heap_price_again(desk, plan, heap):
    prices = [price_again(desk, kind, row[parent], row[at]) for kind, row in heap for at, (parent, _) in enumerate(plan[1], start=1)]
    return None if None in prices else sum(prices)


def standings_again(desk, plan, moves, most=1500):
    """(the standings that come by rows of at most so many moves, whether these are all); None for more than most."""
    known, layer = {FIRST}, [FIRST]
    told = {}
    for _ in range(moves):
        found = set()
        for standing in layer:
            if standing[0] not in told:
                told[standing[0]] = net_moves(desk, plan, standing[0])
            for move in told[standing[0]]:
                behind = led_again(desk, plan, standing, move)
                if behind is not None and behind not in known:
                    found.add(behind)
        known |= found
        layer = found
        if not layer:
            return known, True
        if len(known) > most:
            return None
    return known, False


def has_ring(desk, plan, standings):
    """Whether one of these standings leads, by moves among these, to one that holds it and is unlike."""
    leads = {}
    for one in standings:
        leads[one] = {behind for _, behind in net_steps(desk, plan, one)} & set(standings)
    for one in standings:
        seen, left = set(), [one]
        while left:
            for other in leads[left.pop()]:
                if other not in seen:
                    seen.add(other)
                    left.append(other)
                    if other != one and above(other, one):
                        return True
    return False


def closed_again(desk, plan, most, value):
    """[28] told again for any value."""
    if not are_standings(desk, plan, value):
        return False
    prices = [heap_price_again(desk, plan, heap) for done, heap in value if len(done) == len(plan[0])]
    if any(price is None or price > most for price in prices):
        return False
    return FIRST in value and all(behind in value for one in value for _, behind in net_steps(desk, plan, one))


class Prices(Case):
    def test_by_hand(self):
        self.same(price_of(BOUGHT, no_plan(0), ()), 0)
        self.same(price_of(BOUGHT, no_plan(0), ((0, (2, 0)), (0, (2, 0)), (0, (2, 1)))), 8)
        self.same(price_of(MAIL, no_plan(0), ((0, (2, 0)), (0, (2, 1)))), None)
        self.same(price_of(desk=LOCK, plan=both_plan(1, 0), heap=[[0, [2, 1, 2, 0, 2]]]), None)
        self.same(price_of(LOCK, both_plan(0, 1), ((0, (1, 0, 2, 0, 2)),)), 1 + 5)
        self.same(price_of(LOCK, row_plan((0, 0)), ((0, (1, 0, 2)), (0, (2, 0, 0)))), 1 + 4 + 2)

    def test_against_telling_again(self):
        rng = self.rng(1)
        seen = {True: 0, False: 0}
        while min(seen.values()) < 30:
            desk, plan, _ = random_fear(rng, 3000)
            history = random_plan_history(rng, desk, plan)
            if history is None:
                continue
            heap = heap_of(desk, plan, history)
            want = heap_price_again(desk, plan, heap)
            self.same(price_of(desk, plan, heap), want)
            self.same(price_of(desk, plan, as_lists(heap)), want)
            if heap:
                seen[want is None] += 1


class Worsts(Case):
    def test_by_hand(self):
        self.same(worst(MAIL, no_plan(0)), ("most", 3))
        self.same(worst(BOUGHT, no_plan(0)), ("most", 3))
        self.same(worst(desk=BOUGHT, plan=as_lists(row_plan((0, 0)))), ("most", 6))
        self.same(worst(COPIED, no_plan(0)), ("grows",))
        self.same(worst(Desk(MAIL.kinds, MAIL.tools, ()), no_plan(1)), ("bad",))
        self.same(closed_lot(BOUGHT, no_plan(0)), BOUGHT_LOT)
        self.same(closed_lot(desk=COPIED, plan=no_plan(0)), None)
        self.same(closed_lot_holds(BOUGHT, no_plan(0), 3, BOUGHT_LOT), True)
        self.same(closed_lot_holds(BOUGHT, no_plan(0), 2, BOUGHT_LOT), False)

    def test_a_plan_whose_strike_stands_in_no_column(self):
        plan = ((0, 1), ((0, 0),))
        self.same(worst(BOUGHT, plan), ("most", 3))
        found = closed_lot(BOUGHT, plan)
        self.same(closed_lot_holds(BOUGHT, plan, 3, found), True)
        # what is dear with one strike alone must not be counted: all have come at the end
        self.assertIn(((1,), ()), found)

    def test_against_telling_again(self):
        rng = self.rng(2)
        seen = {}
        for _ in range(350):
            desk, plan, _ = random_fear(rng)
            told = standings_again(desk, plan, 12, 300)
            if told is None:
                continue
            standings, whole = told
            try:
                found = closed_lot(desk, plan)
            except InvalidSize as error:
                self.same(error.word, "standings")
                continue
            calm = is_calm(desk, plan, None)
            if whole:
                self.same(found, tuple(sorted(standings)))
                full = [heap for done, heap in standings if len(done) == len(plan[0])]
                prices = [heap_price_again(desk, plan, heap) for heap in full]
                self.same(calm, None not in prices)
                self.same(worst(desk, plan), ("most", max(prices)) if calm else ("bad",))
                if calm:
                    self.same(closed_lot_holds(desk, plan, max(prices), found), True)
                    self.same(closed_lot_holds(desk, plan, max(prices) + 5, found[::-1] + found[:1]), True)
                    self.same(closed_lot_holds(desk, plan, max(prices) - 1, found), False)
                else:
                    self.same(closed_lot_holds(desk, plan, 10 ** 9, found), False)
            else:
                if found is None and len(standings) <= 60:
                    self.assertTrue(has_ring(desk, plan, standings))
                self.same(worst(desk, plan)[0], "bad" if not calm else "grows" if found is None else "most")
            key = (whole, calm, found is None)
            seen[key] = seen.get(key, 0) + 1
        self.assertGreater(seen[(True, True, False)], 30)
        self.assertGreater(seen[(True, False, False)], 5)
        self.assertGreater(seen[(False, True, True)], 5)
        self.assertGreater(seen[(False, False, True)], 5)

    def test_no_history_costs_more(self):
        rng = self.rng(3)
        met = 0
        for _ in range(400):
            desk, plan, _ = random_fear(rng)
            try:
                found = worst(desk, plan)
            except InvalidSize:
                continue
            history = random_plan_history(rng, desk, plan)
            if history is None or found[0] != "most":
                continue
            price = heap_price_again(desk, plan, heap_of(desk, plan, history))
            self.assertLessEqual(price, found[1])
            met += price == found[1] > 0
        self.assertGreater(met, 10)


class Papers(Case):
    def test_papers(self):
        rng = self.rng(4)
        seen = {True: 0, False: 0}
        tried = 0
        while tried < 60:
            desk, plan, _ = random_fear(rng, 100)
            if not is_calm(desk, plan, None):
                continue
            found = closed_lot(desk, plan)
            if found is None or len(found) > 40:
                continue
            tried += 1
            most = worst(desk, plan)[1]
            values = [spoilt(rng, found) for _ in range(8)] + [found[:at] + found[at + 1:] for at in range(min(5, len(found)))]
            values += [found + (FIRST,), list(found), as_lists(found), found[::-1]]
            # also such that do not come: one more thing apart, and all that comes of it
            sorts = sorted(fitting(plan, what_comes(desk), ()) | fitting(plan, what_comes(desk), tuple(range(len(plan[0])))))
            for _ in range(4):
                strikes = tuple(range(len(plan[0])))
                more = [(strikes, (rng.choice(sorts),))] if sorts else []
                known = set(found)
                while more and len(known) < 80:
                    one = more.pop()
                    if one not in known:
                        known.add(one)
                        more += [behind for _, behind in net_steps(desk, plan, one)]
                values.append(tuple(sorted(known)))
            for value in values:
                for limit in (most, most + 20):
                    want = closed_again(desk, plan, limit, value)
                    self.same(closed_lot_holds(desk, plan, limit, value), want)
                    seen[want] += 1
        self.assertGreater(min(seen.values()), 50)

    def test_any_value(self):
        for value in odd_values() + [list(BOUGHT_LOT), (list(BOUGHT_LOT[0]),) + BOUGHT_LOT[1:], BOUGHT_LOT[1:], BOUGHT_LOT[:2],
                                     BOUGHT_LOT + (((False,), ()),), BOUGHT_LOT + (((0,), ((0, (2, 2)),)),), BOUGHT_LOT + (None,),
                                     BOUGHT_LOT + (((0,), ((0, (3, 0)),)),), BOUGHT_LOT + (((), ((0, (1, 0)),)),)]:
            self.same(closed_lot_holds(BOUGHT, no_plan(0), 3, value), False)
        self.same(closed_lot_holds(desk=BOUGHT, plan=no_plan(0), most=3, value=BOUGHT_LOT + BOUGHT_LOT), True)
        self.same(closed_lot_holds(BOUGHT, no_plan(0), 3, BOUGHT_LOT + (((0,), ()),)), True)
        # such that do not come: out here and signed there costs 2, draft here and signed there can't be put right
        self.same(closed_lot_holds(BOUGHT, no_plan(0), 3, BOUGHT_LOT + (((0,), ((0, (2, 1)),)),)), True)
        self.same(closed_lot_holds(BOUGHT, no_plan(0), 3, BOUGHT_LOT + (((0,), ((0, (0, 1)),)),)), False)


class Errors(Case):
    def wrong(self, error, at, desk, plan):
        for call, rest in ((price_of, ((),)), (worst, ()), (closed_lot, ()), (closed_lot_holds, (1, None))):
            self.fails(error, at, call, desk, plan, *rest)

    def test_plans_then_nets(self):
        self.wrong(InvalidPlan, ("plan", -1), MAIL, None)
        self.wrong(InvalidPlan, ("tools", -1), MAIL, ((), ()))
        self.wrong(InvalidPlan, ("tools", 0), MAIL, no_plan(2))
        self.wrong(InvalidPlan, ("columns", 1), MAIL, ((0,), ((0, 0), (1, 0))))
        large = Desk((("a", 4),), (("up", (0, 0), (((0, 0), (1, 2)), ((1, 1), (2, 3)), ((1, 2), (3, 3)))),), ())
        self.wrong(InvalidPlan, ("tools", 1), large, row_plan((0, 1)))
        self.wrong(InvalidSize, "net", large, row_plan((0, 0)))

    def test_walls_come_first(self):
        desk = Desk((("a", 4),), (("up", (0,), [((x,), (x + 1,)) for x in range(3)]),), ())
        self.fails(InvalidSize, "wall", worst, desk, both_plan(0, 0))
        self.assertIsInstance(closed_lot(desk, both_plan(0, 0)), (tuple, type(None)))

    def test_many_standings(self):
        # a goes up and leaves, each time, a b and a c apart, which go up by themselves
        def desk(many):
            marks = [((x, 0, 0), (x + 1, 1, 1)) for x in range(1, many)]
            return Desk((("a", 6), ("b", 5), ("c", 2)), (
                ("set", (0,), (((0,), (1,)),)), ("mark", (0, 1, 2), marks), ("up", (1,), [((y,), (y + 1,)) for y in range(1, 4)]),
            ), [(0, x, 0, 1) for x in range(1, 6)] + [(1, y, 0, 1) for y in range(1, 5)] + [(2, 1, 0, 1)])
        for many in range(1, 5):
            standings, whole = standings_again(desk(many), no_plan(0), 50, 2000)
            self.assertTrue(whole)
            self.same(closed_lot(desk(many), no_plan(0)), tuple(sorted(standings)))
            self.same(worst(desk(many), no_plan(0)), ("most", 2 * many - 1))

    def test_too_many_standings(self):
        # what a leaves apart at each turn goes up by itself: more than 400 within ten moves, and no ring
        rows = [((x, 0), (x + 1, 1)) for x in range(1, 5)]
        ups = [((y,), (y + 1,)) for y in range(1, 4)]
        desk = Desk((("a", 6), ("b", 5), ("c", 5), ("d", 5)), (
            ("set", (0,), (((0,), (1,)),)), ("markb", (0, 1), rows), ("markc", (0, 2), rows), ("markd", (0, 3), rows),
            ("upb", (1,), ups), ("upc", (2,), ups), ("upd", (3,), ups),
        ), [(kind, x, 0, 1) for kind in range(4) for x in range(1, 6 if kind == 0 else 5)])
        self.assertIsNone(standings_again(desk, no_plan(0), 10, 400))
        self.fails(InvalidSize, "standings", closed_lot, desk, no_plan(0))
        self.fails(InvalidSize, "standings", worst, desk, no_plan(0))
        self.same(closed_lot_holds(desk, no_plan(0), 100, ()), False)
        self.same(price_of(desk, no_plan(0), ((0, (1, 0)), (1, (3, 0)))), 2)

    def test_only_where_too_many_come(self):
        rng = self.rng(5)
        for _ in range(150):
            desk, plan, _ = random_fear(rng, 2000)
            try:
                closed_lot(desk, plan)
            except InvalidSize as error:
                self.same(error.word, "standings")
                self.assertIsNone(standings_again(desk, plan, 10, 400) and standings_again(desk, plan, 50, 2000))


if __name__ == "__main__":
    unittest.main()
