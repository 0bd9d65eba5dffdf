"""[13]: pairs and their prices."""

import itertools
import unittest

from lateno.desks import Desk
from lateno.errors import InvalidSize
from lateno.pairs import least_price, repair_price, repair_row
from samples import LOCK, MAIL, Case, nested, odd_values, random_repairs

ROUND = Desk(
    (("a", 4), ("b", 2)), (),
    ((0, 0, 1, 1), (0, 0, 2, 5), (0, 1, 2, 2), (0, 2, 0, 4), (0, 3, 0, 6), (1, 0, 1, 3)),
)


def least_by_trying(desk, kind, x, y):
    """The least price over all ways that meet no state twice; None if there is none."""
    prices = {one[:3]: one[3] for one in desk.repairs}
    best = None if x != y else 0
    others = [state for state in range(desk.kinds[kind][1]) if state not in (x, y)]
    for many in range(len(others) + 1):
        for between in itertools.permutations(others, many):
            way = (x,) + between + (y,)
            hops = [(kind, start, end) for start, end in zip(way, way[1:])]
            if x != y and all(hop in prices for hop in hops):
                price = sum(prices[hop] for hop in hops)
                best = price if best is None else min(best, price)
    return best


def price_by_going(desk, kind, x, y, value):
    """The price of a row of numbers of repairs that lead so, None for anything else."""
    if type(value) is not tuple or any(type(one) is not int for one in value):
        return None
    if any(one not in range(len(desk.repairs)) for one in value):
        return None
    hops = [desk.repairs[one] for one in value]
    states = [x] + [hop[2] for hop in hops]
    if any(hop[0] != kind or hop[1] != state for hop, state in zip(hops, states)):
        return None
    return sum(hop[3] for hop in hops) if states[-1] == y else None


def random_pairs(rng):
    manys = [rng.randint(1, 6) for _ in range(rng.randint(1, 3))]
    desk = Desk([("k" + "abc"[at], many) for at, many in enumerate(manys)], (), random_repairs(rng, manys, 6, 0.3))
    kind = rng.randrange(len(manys))
    return desk, kind, rng.randrange(manys[kind]), rng.randrange(manys[kind])


class LeastPrices(Case):
    def test_by_hand(self):
        self.same([least_price(MAIL, 0, 1, 0), least_price(MAIL, 0, 2, 0), least_price(MAIL, 0, 2, 1)], [1, 3, None])
        self.same(least_price(ROUND, 0, 0, 2), 3)
        self.same(least_price(ROUND, 0, 3, 2), 9)
        self.same(least_price(ROUND, 0, 1, 0), 6)
        self.same(least_price(ROUND, 0, 0, 3), None)
        self.same(least_price(ROUND, 1, 0, 1), 3)
        self.same(least_price(ROUND, 1, 1, 0), None)
        self.same(least_price(desk=ROUND, kind=0, x=3, y=3), 0)

    def test_all_against_trying(self):
        rng = self.rng(1)
        for _ in range(800):
            desk, kind, x, y = random_pairs(rng)
            self.same(least_price(desk, kind, x, y), least_by_trying(desk, kind, x, y))

    def test_three_corners(self):
        rng = self.rng(2)
        for _ in range(100):
            desk, kind, x, y = random_pairs(rng)
            for h in range(desk.kinds[kind][1]):
                one, two = least_price(desk, kind, x, h), least_price(desk, kind, h, y)
                if one is not None and two is not None:
                    self.assertLessEqual(least_price(desk, kind, x, y), one + two)


class Rows(Case):
    def test_by_hand(self):
        self.same(repair_row(ROUND, 0, 0, 2), (0, 2))
        self.same(repair_row(ROUND, 0, 3, 2), (4, 0, 2))
        self.same(repair_row(ROUND, 0, 1, 1), ())
        self.same(repair_row(ROUND, 0, 0, 3), None)
        self.same(repair_row(ROUND, 1, 0, 1), (5,))
        self.same(repair_row(desk=MAIL, kind=0, x=2, y=0), (1,))

    def test_rows_lead_there_at_the_least_price(self):
        rng = self.rng(3)
        for _ in range(800):
            desk, kind, x, y = random_pairs(rng)
            row, price = repair_row(desk, kind, x, y), least_price(desk, kind, x, y)
            if price is None:
                self.same(row, None)
            else:
                self.assertIs(type(row), tuple)
                self.same(price_by_going(desk, kind, x, y, row), price)
                self.same(repair_price(desk, kind, x, y, row), price)


class PricesOfValues(Case):
    def test_by_hand(self):
        self.same(repair_price(ROUND, 0, 0, 2, (1,)), 5)
        self.same(repair_price(ROUND, 0, 0, 2, (0, 2, 3, 0, 2)), 10)
        self.same(repair_price(ROUND, 0, 0, 0, ()), 0)
        self.same(repair_price(ROUND, 0, 0, 0, (0, 2, 3)), 7)
        self.same(repair_price(ROUND, 0, 0, 1, ()), None)
        self.same(repair_price(ROUND, 0, 0, 2, [1]), None)
        self.same(repair_price(ROUND, 0, 0, 2, (2,)), None)
        self.same(repair_price(ROUND, 0, 0, 2, (0, 0)), None)
        self.same(repair_price(ROUND, 0, 0, 1, (5,)), None)
        self.same(repair_price(ROUND, 1, 0, 1, (0,)), None)
        self.same(repair_price(ROUND, 0, 0, 1, (False,)), None)
        self.same(repair_price(ROUND, 0, 0, 2, (True,)), None)
        self.same(repair_price(ROUND, 0, 0, 1, (-6,)), None)
        self.same(repair_price(ROUND, 1, 0, 1, (-1,)), None)
        self.same(repair_price(ROUND, 1, 0, 1, (6,)), None)
        self.same(repair_price(desk=ROUND, kind=1, x=0, y=1, value=(5,)), 3)

    def test_any_value(self):
        for value in odd_values() + [(nested(11),), ((0,),), (ROUND,)]:
            for x in range(4):
                for y in range(4):
                    self.same(repair_price(ROUND, 0, x, y, value), price_by_going(ROUND, 0, x, y, value))

    def test_spoilt_rows(self):
        rng = self.rng(4)
        for _ in range(1500):
            desk, kind, x, y = random_pairs(rng)
            row = list(repair_row(desk, kind, x, y) or ())
            for _ in range(rng.randint(0, 3)):
                row.insert(rng.randint(0, len(row)), rng.randint(-1, len(desk.repairs)))
            if row and rng.random() < 0.3:
                row[rng.randrange(len(row))] = rng.choice(odd_values())
            value = tuple(row) if rng.random() < 0.9 else row
            self.same(repair_price(desk, kind, x, y, value), price_by_going(desk, kind, x, y, value))


class WrongPairs(Case):
    def test_each_error_in_its_order(self):
        bad = [True, False, None, -1, "0", (), [0], MAIL, 10 ** 30, nested(12)]
        for call, rest in ((least_price, ()), (repair_row, ()), (repair_price, ((),))):
            for value in bad:
                self.fails(InvalidSize, "kind", call, LOCK, value, None, None, *rest)
                self.fails(InvalidSize, "kind", call, LOCK, value, 0, 0, *rest)
                self.fails(InvalidSize, "x", call, LOCK, 0, value, None, *rest)
                self.fails(InvalidSize, "x", call, LOCK, 0, value, 0, *rest)
                self.fails(InvalidSize, "y", call, LOCK, 0, 0, value, *rest)
            self.fails(InvalidSize, "kind", call, LOCK, 1, 0, 0, *rest)
            self.fails(InvalidSize, "x", call, LOCK, 0, 3, 3, *rest)
            self.fails(InvalidSize, "y", call, LOCK, 0, 2, 3, *rest)
            self.fails(InvalidSize, "x", call, ROUND, 1, 2, 0, *rest)
        self.fails(InvalidSize, "y", repair_price, LOCK, 0, 0, 3, None)


if __name__ == "__main__":
    unittest.main()
