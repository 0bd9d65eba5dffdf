"""[50]: whose answers would let a held try, and how many are enough."""

import functools
import unittest

from lateno.asking import ask_tree, asks_needed, broken_lots, firm_holds, firm_table, least_yeses, sure_asks, tree_asks
from lateno.errors import InvalidBound, InvalidLedger, InvalidSize, InvalidTry
from lateno.holding import bad_edges, fresh_ledger, ledger_of, tried_ledger
from ledger_samples import behind_try, bill_again, least_lots_of, lots_of, random_held
from samples import MAIL, Case, as_lists, is_tuples, odd_values, spoilt
from table_samples import BOUGHT

# a sign waits; to send would be bad if the send were then refused
SIGNED = ledger_of(MAIL, ((0,), ((0, (0,)),)), (0,))
HELD = (MAIL, SIGNED, (1, (0,)), True, None)
ALL = (least_yeses, broken_lots, sure_asks, asks_needed, ask_tree, firm_table)


class Again:
    """A held try, told again by all orders of all answers."""

    def __init__(self, desk, ledger, one, waits, bound):
        self.desk, self.bound = desk, bound
        self.ledger = behind_try(desk, ledger, one, waits)
        self.places = tuple(range(len(self.ledger[1])))
        self.is_let = functools.lru_cache(None)(self.is_let)
        self.needed = functools.lru_cache(None)(self.needed)

    def is_let(self, yeses, nos):
        free = [place for place in self.places if place not in yeses + nos]
        total = bill_again(self.desk, self.ledger, free, nos)
        return total is not None and (self.bound is None or total <= self.bound)

    def needed(self, yeses, nos):
        if self.is_let(yeses, nos):
            return 0
        return 1 + min(
            max(self.needed(tuple(sorted(yeses + (one,))), nos), self.needed(yeses, tuple(sorted(nos + (one,)))))
            for one in self.places if one not in yeses + nos
        )

    def answers(self, places):
        """All (yeses, Nos) to just these places."""
        for yeses in lots_of(places):
            yield yeses, tuple(place for place in places if place not in yeses)

    def tree(self, value, yeses=(), nos=()):
        if type(value) is not tuple:
            return None
        if value == ():
            return 0 if self.is_let(yeses, nos) else None
        if len(value) != 3 or type(value[0]) is not int or value[0] not in self.places or value[0] in yeses + nos:
            return None
        one = self.tree(value[1], tuple(sorted(yeses + value[:1])), nos)
        other = self.tree(value[2], yeses, tuple(sorted(nos + value[:1])))
        return None if one is None or other is None else 1 + max(one, other)

    def firm(self, value):
        if type(value) is not tuple:
            return None
        told = {}
        for row in value:
            if type(row) is not tuple or len(row) != 3 or type(row[2]) is not int or row[2] < 1:
                return None
            for lot in row[:2]:
                if type(lot) is not tuple or any(type(one) is not int or one not in self.places for one in lot):
                    return None
                if list(lot) != sorted(set(lot)):
                    return None
            if set(row[0]) & set(row[1]) or row[:2] in told:
                return None
            told[row[:2]] = row[2]
        for (yeses, nos), many in told.items():
            if self.is_let(yeses, nos):
                return None
            for one in self.places:
                if one in yeses + nos or many == 1:
                    continue
                ways = ((tuple(sorted(yeses + (one,))), nos), (yeses, tuple(sorted(nos + (one,)))))
                if not any(way in told and told[way] >= many - 1 for way in ways):
                    return None
        return told.get(((), ()), 0)


def crossings(lots, places):
    return least_lots_of([lot for lot in lots_of(places) if all(set(lot) & set(other) for other in lots)])


class ByHand(Case):
    def test_a_held_send(self):
        self.same(bad_edges(MAIL, tried_ledger(*HELD[:4])), (((), 1),))
        self.same(least_yeses(*HELD), ((1,),))
        self.same(broken_lots(*HELD), ((1,),))
        self.same(sure_asks(*HELD), ((1,),))
        self.same(asks_needed(*HELD), 1)
        self.same(ask_tree(*HELD), (1, (), ()))
        self.same(firm_table(*HELD), (((), (), 1), ((0,), (), 1)))
        self.same(firm_holds(*HELD, firm_table(*HELD)), 1)
        self.same(tree_asks(*HELD, (1, (), ())), 1)
        self.same(tree_asks(*HELD, (0, (1, (), ()), (1, (), ()))), 2)
        self.same(tree_asks(*HELD, (0, (), ())), None)

    def test_by_names_and_with_lists(self):
        named = {"desk": MAIL, "ledger": as_lists(SIGNED), "one": [1, [0]], "waits": True, "bound": None}
        for call in ALL:
            self.same(call(**named), call(*HELD))
        self.same(tree_asks(value=(1, (), ()), **named), 1)
        self.same(firm_holds(value=(((), (), 1),), **named), 1)

    def test_what_is_let_anyway(self):
        told = (BOUGHT, SIGNED, (1, (0,)), True, None)
        self.same([call(*told) for call in ALL], [((),), (), ((),), 0, (), ()])
        self.same(tree_asks(*told, ()), 0)
        self.same(tree_asks(*told, (0, (), (1, (), ()))), 2)
        self.same(firm_holds(*told, ()), 0)
        self.same(firm_holds(*told, (((), (), 1),)), None)

    def test_its_own_leave_and_a_bound(self):
        # each sign costs 1; three that wait cost 3
        fresh = (BOUGHT, ledger_of(BOUGHT, ((0, 0, 0), ((0, (0,)), (0, (1,)))), (0, 1)), (0, (2,)), True, 2)
        self.same(least_yeses(*fresh), ((0,), (1,), (2,)))
        self.same(broken_lots(*fresh), ((0, 1, 2),))
        self.same(sure_asks(*fresh), ((0,), (1,), (2,)))
        self.same(asks_needed(*fresh), 1)
        self.same(firm_table(*fresh), (((), (), 1),))
        self.same([call(*fresh[:4], 1) for call in ALL[:4]],
                  [((0, 1), (0, 2), (1, 2)), ((0, 1), (0, 2), (1, 2)), ((0, 1), (0, 2), (1, 2)), 2])
        self.same(firm_table(*fresh[:4], 1), tuple(sorted(
            [((), (), 2)] + [((one,), (), 1) for one in range(3)] + [((), (one,), 1) for one in range(3)])))
        self.same(asks_needed(*fresh[:4], 0), 3)

    def test_nothing_waits(self):
        told = (MAIL, fresh_ledger(MAIL, (0,)), (0, (0,)), False, 0)
        self.same([call(*told) for call in ALL], [((),), (), ((),), 0, (), ()])


class AgainstTellingAgain(Case):
    def test_lots_numbers_trees_and_tables(self):
        rng = self.rng(1)
        seen = {}
        for _ in range(600):
            told = random_held(rng)
            again = Again(*told)
            lots = lots_of(again.places)
            others = {lot: tuple(place for place in again.places if place not in lot) for lot in lots}
            yeses = least_lots_of([lot for lot in lots if again.is_let(lot, ())])
            broken = least_lots_of([lot for lot in lots if not again.is_let(others[lot], ())])
            self.same(least_yeses(*told), yeses)
            self.same(broken_lots(*told), broken)
            self.same(yeses, crossings(broken, again.places))
            self.same(broken, crossings(yeses, again.places))
            sure = least_lots_of([lot for lot in lots if all(again.is_let(*answer) for answer in again.answers(lot))])
            self.same(sure_asks(*told), sure)
            many = again.needed((), ())
            self.same(asks_needed(*told), many)
            tree = ask_tree(*told)
            self.same(again.tree(tree), many)
            self.same(tree_asks(*told, tree), many)
            rows = [answer + (again.needed(*answer),) for lot in lots for answer in again.answers(lot)]
            self.same(firm_table(*told), tuple(sorted(row for row in rows if row[2] > 0)))
            self.same(firm_holds(*told, firm_table(*told)), many)
            seen[many] = seen.get(many, 0) + 1
            if told[4] is None:
                bad = {place for _, place in bad_edges(told[0], again.ledger)}
                self.same(sure, (tuple(sorted(bad)),))
        self.assertGreater(len(seen), 2)

    def test_fewer_than_a_sure_lot_can_do(self):
        rng = self.rng(2)
        met = 0
        for _ in range(600):
            told = random_held(rng)
            met += asks_needed(*told) < min(len(lot) for lot in sure_asks(*told))
        self.assertGreater(met, 0)


class Papers(Case):
    def test_spoilt_trees(self):
        rng = self.rng(3)
        seen = {True: 0, False: 0}
        for _ in range(300):
            told = random_held(rng)
            again = Again(*told)
            tree = ask_tree(*told)
            values = [spoilt(rng, tree) for _ in range(6)] + [as_lists(tree), [], (tree,), tree + ((),), (0, tree, tree), (True, (), ())]
            values += [self.some_tree(rng, again.places) for _ in range(6)]
            for value in values:
                want = again.tree(value)
                self.same(tree_asks(*told, value), want)
                seen[want is None] += 1
        self.assertGreater(min(seen.values()), 50)

    def some_tree(self, rng, places, depth=3):
        if not depth or rng.random() < 0.3 or not places:
            return ()
        place = rng.choice(places)
        rest = tuple(one for one in places if one != place or rng.random() < 0.1)
        return (place, self.some_tree(rng, rest, depth - 1), self.some_tree(rng, rest, depth - 1))

    def test_spoilt_tables(self):
        rng = self.rng(4)
        seen = {}
        for _ in range(300):
            told = random_held(rng)
            again = Again(*told)
            rows = firm_table(*told)
            values = [spoilt(rng, rows) for _ in range(8)] + [list(rows), as_lists(rows), rows[::-1], rows + rows[:1]]
            values += [tuple(row for row in rows if rng.random() < 0.8) for _ in range(4)]
            values += [tuple(row[:2] + (max(1, row[2] + rng.choice([-1, 0, 1])),) for row in rows) for _ in range(4)]
            for value in values:
                want = again.firm(value)
                self.same(firm_holds(*told, value), want)
                seen[want] = seen.get(want, 0) + 1
                if want is not None:
                    self.assertLessEqual(want, asks_needed(*told))
        self.assertGreater(len(seen), 3)

    def test_any_value(self):
        again = Again(*HELD)
        for value in odd_values():
            self.same(tree_asks(*HELD, value), again.tree(value))
            self.same(tree_asks(*HELD, (1, value, ())), again.tree((1, value, ())))
            self.same(firm_holds(*HELD, value), again.firm(value))
            for row in ((value, (), 1), ((), value, 1), ((), (), value), value):
                self.same(firm_holds(*HELD, (row,)), again.firm((row,)))
        for value in ((1, (1, (), ()), ()), (1, (), ()) * 2, (2, (), ()), (-1, (), ()), (1, ()), (True, (), ()), (1, [], ())):
            self.same(tree_asks(*HELD, value), None)
        for value in ((((), (), 2),), (((), (), 0),), (((), (), True),), (((1,), (), 1),), (((0,), (0,), 1),), (((0, 0), (), 1),),
                      (((2,), (), 1),), (((), (), 1), ((), (), 1)), (((), (), 1), ((), (), 2)), ([(), (), 1],), (([], (), 1),)):
            self.same(firm_holds(*HELD, value), None)
        self.same(firm_holds(*HELD, ()), 0)
        self.same(firm_holds(*HELD, (((), (0,), 1),)), again.firm((((), (0,), 1),)))


class Errors(Case):
    def wrong(self, error, at, *told):
        for call in ALL:
            self.fails(error, at, call, *told)
        self.fails(error, at, tree_asks, *told, None)
        self.fails(error, at, firm_holds, *told, None)

    def test_as_of_lets(self):
        six = ((0,), ((0, (0,)),) * 6, ((1,),) * 64)
        self.wrong(InvalidLedger, -1, MAIL, None, None, True, -1)
        self.wrong(InvalidLedger, 0, MAIL, ((1,), None, None), None, True, -1)
        self.wrong(InvalidLedger, 1, MAIL, ((0,), ((0, (1,)),), None), None, True, -1)
        self.wrong(InvalidLedger, 2, MAIL, ((0,), (), ((3,),)), None, True, -1)
        for value in (None, (0, (1,)), (2, (0,)), (True, (0,)), (0, (0, 0)), "a", MAIL):
            self.wrong(InvalidTry, -1, MAIL, six, value, True, -1)
        for value in (-1, True, False, "3", (), (3,), MAIL):
            self.wrong(InvalidBound, -1, MAIL, six, (0, (0,)), True, value)
        self.wrong(InvalidSize, "waiting", MAIL, six, (0, (0,)), True, None)
        self.wrong(InvalidSize, "waiting", MAIL, six, (0, (0,)), True, 3)
        self.same(least_yeses(MAIL, six, (0, (0,)), False, None), ((),))

    def test_results_are_tuples(self):
        rng = self.rng(5)
        for _ in range(40):
            told = random_held(rng)
            for call in ALL:
                self.assertTrue(is_tuples(call(*told)))


if __name__ == "__main__":
    unittest.main()
