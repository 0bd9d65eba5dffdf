"""[48], [49]: ledgers, edges, bills, orders, and what a desk that watches lets."""

import itertools
import unittest

from lateno.desks import Desk
from lateno.errors import InvalidBound, InvalidHistory, InvalidIndex, InvalidLedger, InvalidLot, InvalidSize, InvalidStruck, InvalidTry
from lateno.holding import bad_edges, bill, cheapest_order, dearest_order, edge_price, fresh_ledger, ledger_of, lets, no_ledger
from lateno.holding import tried_ledger, yes_ledger
from lateno.tables import worst_of
from lateno.twins import lot_worlds
from ledger_samples import behind_try, bill_again, edge_again, lots_of, order_price, random_held, random_ledger, random_room
from samples import COPY, MAIL, Case, as_lists, is_tuples, odd_values, random_history, random_try, spoilt
from table_samples import BOUGHT

PRICE = ("price",)
SIGNED = ((0,), ((0, (0,)), (1, (0,))))
LEDGER = ((0,), ((0, (0,)), (1, (0,))), ((2,), (0,), (1,), (0,)))
SIX = ((0,), ((0, (0,)),) * 6, ((1,),) * 64)


def wrong_ledger(desk, value):
    """Told again: the place for which any value is refused as a ledger, None for one."""
    if type(value) not in (list, tuple) or len(value) != 3:
        return -1
    things, waiting, worlds = value
    if type(things) not in (list, tuple) or any(type(kind) is not int or not 0 <= kind < len(desk.kinds) for kind in things):
        return 0
    if type(waiting) not in (list, tuple) or len(waiting) > 6:
        return 1
    for one in waiting:
        if type(one) not in (list, tuple) or len(one) != 2 or type(one[0]) is not int or not 0 <= one[0] < len(desk.tools):
            return 1
        roles = desk.tools[one[0]][1]
        if type(one[1]) not in (list, tuple) or len(one[1]) != len(roles):
            return 1
        for at, (member, kind) in enumerate(zip(one[1], roles)):
            if type(member) is not int or not 0 <= member < len(things) or things[member] != kind or member in one[1][:at]:
                return 1
    if type(worlds) not in (list, tuple) or len(worlds) != 2 ** len(waiting):
        return 2
    for world in worlds:
        if type(world) not in (list, tuple) or len(world) != len(things):
            return 2
        if any(type(state) is not int or not 0 <= state < desk.kinds[kind][1] for state, kind in zip(world, things)):
            return 2
    return None


class Ledgers(Case):
    def test_by_hand(self):
        self.same(fresh_ledger(MAIL, (0, 0)), ((0, 0), (), ((0, 0),)))
        self.same(fresh_ledger(desk=MAIL, things=[]), ((), (), ((),)))
        self.same(ledger_of(MAIL, SIGNED, (0, 1)), LEDGER)
        self.same(ledger_of(desk=MAIL, history=as_lists(SIGNED), waiting=[1]), ((0,), ((1, (0,)),), ((2,), (1,))))
        self.same(ledger_of(MAIL, SIGNED, ()), ((0,), (), ((2,),)))
        self.same(tried_ledger(MAIL, LEDGER, (0, (0,)), True),
                  ((0,), LEDGER[1] + ((0, (0,)),), ((2,), (1,), (1,), (1,), (2,), (0,), (1,), (0,))))
        self.same(tried_ledger(MAIL, as_lists(LEDGER), [0, [0]], False), ((0,), LEDGER[1], ((2,), (1,), (1,), (1,))))
        self.same(yes_ledger(MAIL, LEDGER, 0), ((0,), ((1, (0,)),), ((2,), (1,))))
        self.same(no_ledger(MAIL, LEDGER, 0), ((0,), ((1, (0,)),), ((0,), (0,))))
        self.same(yes_ledger(desk=MAIL, ledger=as_lists(LEDGER), place=1), ((0,), ((0, (0,)),), ((2,), (0,))))
        self.same(no_ledger(desk=MAIL, ledger=LEDGER, place=1), ((0,), ((0, (0,)),), ((1,), (0,))))

    def test_tries_and_answers_in_any_order(self):
        rng = self.rng(1)
        for _ in range(150):
            desk = random_room(rng)
            things = tuple(rng.randrange(len(desk.kinds)) for _ in range(rng.randint(1, 5)))
            ledger, tries, waiting, struck = fresh_ledger(desk, things), [], [], []
            for _ in range(14):
                if waiting and rng.random() < 0.4:
                    place = rng.randrange(len(waiting))
                    if rng.random() < 0.5:
                        ledger = yes_ledger(desk, ledger, place)
                        del waiting[place]
                    else:
                        ledger = no_ledger(desk, ledger, place)
                        struck.append(waiting.pop(place))
                else:
                    one = random_try(rng, desk, things)
                    if one is None:
                        break
                    waits = rng.random() < 0.6 and len(waiting) < 6
                    ledger = tried_ledger(desk, ledger, one, waits)
                    if waits:
                        waiting.append(len(tries))
                    tries.append(one)
                self.same(ledger[0], things)
                self.same(ledger[1], tuple(tries[number] for number in waiting))
                left = [number for number in range(len(tries)) if number not in struck]
                told = (things, tuple(tries[number] for number in left))
                self.same(ledger[2], lot_worlds(desk, told, [left.index(number) for number in waiting]))
                self.same(ledger_of(desk, told, [left.index(number) for number in waiting]), ledger)

    def test_a_seventh(self):
        for call, rest in ((tried_ledger, ()), (lets, (None,))):
            self.fails(InvalidSize, "waiting", call, MAIL, SIX, (0, (0,)), True, *rest)
        self.same(tried_ledger(MAIL, SIX, (1, (0,)), False), ((0,), SIX[1], ((2,),) * 64))
        self.same(lets(MAIL, SIX, (1, (0,)), False, 0), True)
        history = ((0,), ((0, (0,)),) * 7)
        self.fails(InvalidSize, "waiting", ledger_of, MAIL, history, (0, 1, 2, 3, 4, 5, 6))
        self.same(len(ledger_of(MAIL, history, [0, 1, 2, 4, 5, 6])[2]), 64)


class Prices(Case):
    def test_by_hand(self):
        self.same(edge_price(MAIL, LEDGER, (), 0), 3)
        self.same(edge_price(MAIL, LEDGER, (), 1), None)
        self.same(edge_price(desk=BOUGHT, ledger=as_lists(LEDGER), lot=[], place=1), 2)
        self.same(edge_price(MAIL, LEDGER, (1,), 0), 1)
        self.same(edge_price(MAIL, LEDGER, [0], 1), 0)
        self.same(bad_edges(MAIL, LEDGER), (((), 1),))
        self.same(bad_edges(BOUGHT, LEDGER), ())
        self.same(bill(MAIL, LEDGER), None)
        self.same(bill(BOUGHT, as_lists(LEDGER)), 3)
        self.same(dearest_order(MAIL, LEDGER, (0, 1)), (None, (1, 0)))
        self.same(cheapest_order(MAIL, LEDGER, [0, 1]), (3, (0, 1)))
        self.same(dearest_order(desk=MAIL, ledger=LEDGER, lot=()), (0, ()))
        self.same(cheapest_order(desk=MAIL, ledger=LEDGER, lot=(1,)), (None, (1,)))
        self.same(bill(MAIL, fresh_ledger(MAIL, (0,))), 0)

    def test_orders_may_cost_unlike(self):
        desk = Desk((("a", 3),), (("up", (0,), (((0,), (1,)), ((1,), (2,)))),), ((0, 0, 1, 1), (0, 1, 2, 5), (0, 2, 0, 1), (0, 2, 1, 9)))
        ledger = ((0,), ((0, (0,)), (0, (0,))), ((2,), (1,), (0,), (0,)))
        self.same(dearest_order(desk, ledger, (0, 1)), (8, (0, 1)))
        self.same(cheapest_order(desk, ledger, (0, 1)), (1, (1, 0)))

    def test_against_telling_again(self):
        rng = self.rng(2)
        seen = {True: 0, False: 0}
        for _ in range(600):
            desk = random_room(rng)
            ledger = random_ledger(rng, desk)
            places = range(len(ledger[1]))
            bad = []
            for lot in lots_of(places):
                for place in places:
                    if place in lot:
                        self.fails(InvalidIndex, -1, edge_price, desk, ledger, lot, place)
                        continue
                    want = edge_again(desk, ledger, lot, place)
                    self.same(edge_price(desk, ledger, lot, place), want)
                    bad += [(lot, place)] * (want is None)
            self.same(bad_edges(desk, ledger), tuple(sorted(bad)))
            want = bill_again(desk, ledger)
            self.same(bill(desk, ledger), want)
            seen[want is None] += 1
            for lot in lots_of(places):
                sums = [order_price(desk, ledger, order) for order in itertools.permutations(lot)]
                finite = [one for one in sums if one is not None]
                most, order = dearest_order(desk, ledger, lot)
                self.same(most, None if None in sums else max(sums))
                self.same(order_price(desk, ledger, order), most)
                self.assertEqual(sorted(order), list(lot))
                least, order = cheapest_order(desk, ledger, lot)
                self.same(least, min(finite) if finite else None)
                self.same(order_price(desk, ledger, order), least)
                self.assertEqual(sorted(order), list(lot))
        self.assertGreater(min(seen.values()), 30)

    def test_six_that_wait(self):
        rng = self.rng(3)
        for _ in range(10):
            desk = random_room(rng)
            history = random_history(rng, desk, 4, 16)
            if len(history[1]) < 6:
                continue
            ledger = ledger_of(desk, history, sorted(rng.sample(range(len(history[1])), 6)))
            self.same(bill(desk, ledger), dearest_order(desk, ledger, (0, 1, 2, 3, 4, 5))[0])


class Lets(Case):
    def test_by_hand(self):
        signed = ledger_of(BOUGHT, ((0,), ((0, (0,)),)), (0,))
        self.same(lets(BOUGHT, signed, (1, (0,)), False, 3), True)
        self.same(lets(BOUGHT, signed, (1, (0,)), False, 2), False)
        self.same(lets(BOUGHT, signed, (1, (0,)), True, None), True)
        self.same(lets(MAIL, signed, (1, (0,)), False, None), True)
        self.same(lets(MAIL, signed, (1, (0,)), True, None), False)
        self.same(lets(desk=MAIL, ledger=as_lists(signed), one=[1, [0]], waits=False, bound=10 ** 9), True)

    def test_against_telling_again(self):
        rng = self.rng(4)
        seen = {True: 0, False: 0}
        for _ in range(250):
            desk, ledger, one, waits, bound = random_held(rng, 4)
            total = bill_again(desk, behind_try(desk, ledger, one, waits))
            want = total is not None and (bound is None or total <= bound)
            self.same(lets(desk, ledger, one, waits, bound), want)
            self.same(tried_ledger(desk, ledger, one, waits), behind_try(desk, ledger, one, waits))
            if total is not None:
                self.same(lets(desk, ledger, one, waits, total), True)
                self.same(lets(desk, ledger, one, waits, total - 1), False) if total > 0 else None
            seen[want] += 1
        self.assertGreater(min(seen.values()), 50)

    def test_answers_never_cost_more(self):
        rng = self.rng(5)
        for _ in range(150):
            desk = random_room(rng)
            ledger = random_ledger(rng, desk)
            total = bill(desk, ledger)
            for place in range(len(ledger[1])):
                if total is not None:
                    self.assertLessEqual(bill(desk, yes_ledger(desk, ledger, place)), total)
                    paid = edge_price(desk, ledger, (), place)
                    self.assertLessEqual(paid + bill(desk, no_ledger(desk, ledger, place)), total)

    def test_at_most_the_sum_of_worsts(self):
        rng = self.rng(6)
        met = 0
        for _ in range(1500):
            desk = random_room(rng)
            history = random_history(rng, desk, 4, 8)
            lot = [number for number in range(len(history[1])) if rng.random() < 0.4]
            worsts = [worst_of(desk, history[1][number][0], PRICE) for number in lot]
            if None not in worsts:
                total = bill(desk, ledger_of(desk, history, lot))
                self.assertLessEqual(total, sum(worsts))
                met += total > 0
        self.assertGreater(met, 5)


class Errors(Case):
    def wrong(self, error, at, desk, ledger, lot=None, place=None, one=None, bound=-1):
        for call, rest in ((yes_ledger, (place,)), (no_ledger, (place,)), (edge_price, (lot, place)), (bad_edges, ()), (bill, ()),
                           (dearest_order, (lot,)), (cheapest_order, (lot,)), (tried_ledger, (one, True)), (lets, (one, True, bound))):
            self.fails(error, at, call, desk, ledger, *rest)

    def test_ledgers_come_first(self):
        rng = self.rng(7)
        values = odd_values() + [SIX[:2] + (SIX[2][:63],), (SIX[0], SIX[1] * 2, SIX[2]), (None, None, None), ((0,), None, None),
                                 ((1,), None, None), ((0,), (), ()), ((0,), (), ((0, 0),)), ((0,), (), ((3,),)), ((0,), (), ((True,),)),
                                 ((0,), ((0, (1,)),), ((0,), (0,))), ((True,), (), ((0,),)), ((0,), (), "a"), ((0,), ((0, (0,)),), ((0,),))]
        values += [spoilt(rng, LEDGER) for _ in range(600)]
        seen = set()
        for value in values:
            at = wrong_ledger(MAIL, value)
            seen.add(at)
            if at is None:
                self.assertTrue(is_tuples(bad_edges(MAIL, value)))
            else:
                self.wrong(InvalidLedger, at, MAIL, value)
        self.assertEqual(seen, {None, -1, 0, 1, 2})

    def test_things_and_histories(self):
        for value in (None, 3, "ab", True, (1,), (0, True), (-1,), [None], MAIL, ("0",)):
            self.fails(InvalidHistory, -1, fresh_ledger, MAIL, value)
        self.fails(InvalidHistory, -1, ledger_of, MAIL, None, None)
        self.fails(InvalidHistory, 1, ledger_of, MAIL, ((0,), ((0, (0,)), (9, (0,)))), None)
        for value in (None, 3, "ab", MAIL):
            self.fails(InvalidStruck, -1, ledger_of, MAIL, SIGNED, value)
        for value in (0, 2, -1, True, None, "1"):
            self.fails(InvalidStruck, 1, ledger_of, MAIL, SIGNED, (0, value, None))
        self.fails(InvalidStruck, 7, ledger_of, MAIL, ((0,), ((0, (0,)),) * 7), [0, 1, 2, 3, 4, 5, 6, 6])

    def test_tries(self):
        for value in odd_values() + [(0, (1,)), (2, (0,)), (0, (0, 0)), (0, (True,)), (False, (0,)), (0,), (-1, (0,))]:
            if value == (0, (0,)):
                continue
            for ledger in (LEDGER, SIX):
                self.fails(InvalidTry, -1, tried_ledger, MAIL, ledger, value, True)
                self.fails(InvalidTry, -1, lets, MAIL, ledger, value, True, -1)

    def test_bounds(self):
        for value in odd_values() + [-1, -10 ** 9, "3"]:
            if value is None or (type(value) is int and value >= 0):
                continue
            for ledger in (LEDGER, SIX):
                self.fails(InvalidBound, -1, lets, MAIL, ledger, (0, (0,)), True, value)

    def test_places_and_lots(self):
        for value in odd_values() + [2, -1]:
            if type(value) is int and 0 <= value < 2:
                continue
            self.fails(InvalidIndex, -1, yes_ledger, MAIL, LEDGER, value)
            self.fails(InvalidIndex, -1, no_ledger, MAIL, LEDGER, value)
            self.fails(InvalidIndex, -1, edge_price, MAIL, LEDGER, (), value)
        self.fails(InvalidIndex, -1, edge_price, MAIL, LEDGER, (0,), 0)
        rng = self.rng(8)
        values = odd_values() + [(0, 0), (1, 0), (0, 2), (2,), (-1,), (True,), (0, None), (0, "1")]
        for value in values + [spoilt(rng, rng.choice([(0, 1), (0,), (1,), [0, 1]])) for _ in range(200)]:
            at = None if type(value) in (list, tuple) else -1
            for place, one in enumerate(value if at is None else ()):
                if type(one) is not int or not 0 <= one < 2 or any(other >= one for other in value[:place]):
                    at = place
                    break
            if at is None:
                self.assertEqual(sorted(dearest_order(BOUGHT, LEDGER, value)[1]), list(value))
                continue
            self.fails(InvalidLot, at, edge_price, MAIL, LEDGER, value, None)
            self.fails(InvalidLot, at, dearest_order, MAIL, LEDGER, value)
            self.fails(InvalidLot, at, cheapest_order, MAIL, LEDGER, value)

    def test_arguments_stay(self):
        ledger = as_lists(LEDGER)
        one = [0, [0]]
        tried_ledger(MAIL, ledger, one, True)
        yes_ledger(MAIL, ledger, 0)
        no_ledger(MAIL, ledger, 0)
        lets(MAIL, ledger, one, True, None)
        dearest_order(MAIL, ledger, [0, 1])
        self.assertEqual((ledger, one), (as_lists(LEDGER), [0, [0]]))
        self.same(bill(COPY, fresh_ledger(COPY, [0])), 0)


if __name__ == "__main__":
    unittest.main()
