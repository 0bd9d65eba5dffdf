"""[43]: contracts of houses, their tables, contracts that hold, the least one."""

import itertools
import unittest

from lateno.contracts import contract_holds, contract_table, least_contract
from lateno.desks import Desk
from lateno.errors import InvalidContract, InvalidDesk, InvalidHouse, InvalidSeam
from lateno.guards import guard_table
from lateno.houses import House, closed_lots, comes_with, join_houses
from samples import MAIL, Case, as_lists, befores_of, is_tuples, nested, no_bools, odd_values, random_repairs, spoilt
from table_samples import BOUGHT, given, play, price_again

BAD, GROWS = ("bad",), ("grows",)
ALONE = House(BOUGHT, 1)
# put: what is out goes back to draft, and marks a box
BOXED = House(Desk(
    (("mail", 3), ("box", 2)), (("put", (0, 1), (((2, 0), (0, 1)),)),), BOUGHT.repairs + ((1, 0, 1, 4), (1, 1, 0, 5)),
), 1)


def rank(value):
    return {"most": 0, "grows": 1, "bad": 2}[value[0]], value[1:]


def value_told(value):
    """The value of a No that any value is, in tuples; None for none."""
    if type(value) not in (list, tuple):
        return None
    value = tuple(value)
    if value in (BAD, GROWS):
        return value
    if len(value) == 2 and value[0] == "most" and type(value[1]) is int and value[1] >= 0:
        return value
    return None


def first_of(desk, sort):
    price = price_again(desk, *sort)
    return BAD if price is None else ("most", price)


def wrong_contract(house, value):
    """Told again: the place for which any value is refused as a contract, None for one."""
    if type(value) not in (list, tuple) or len(value) != 2 or type(value[1]) not in (list, tuple):
        return -1
    lots, rows = value
    if type(lots) not in (list, tuple) or len(lots) != house.many:
        return -1
    for lot, (_, many) in zip(lots, house.desk.kinds):
        if type(lot) not in (list, tuple) or any(type(state) is not int or not 0 <= state < many for state in lot):
            return -1
        if 0 not in lot or list(lot) != sorted(set(lot)):
            return -1
    if tuple(tuple(lot) for lot in lots) not in closed_lots(house):
        return -1
    sorts = [(kind, x, y) for kind, lot in enumerate(lots) for x in lot for y in lot if x != y]
    for at, sort in enumerate(sorts):
        if at >= len(rows):
            return at
        row = rows[at]
        if type(row) not in (list, tuple) or len(row) != 2 or type(row[0]) not in (list, tuple) or repr(tuple(row[0])) != repr(sort):
            return at
        told = value_told(row[1])
        if told is None or rank(told) < rank(first_of(house.desk, sort)):
            return at
    return len(sorts) if len(rows) > len(sorts) else None


def table_again(house, contract):
    """For each sort of what comes with the lots its value, by layers."""
    desk, comes = house.desk, comes_with(house, contract[0])
    told = {tuple(sort): tuple(value) for sort, value in contract[1]}
    sorts = [(kind, x, y) for kind, lot in enumerate(comes) for x, y in itertools.permutations(lot, 2)]
    first = {sort: told.get(sort, first_of(desk, sort)) for sort in sorts}
    gives = {}
    for sort in sorts:
        gives[sort] = set()
        for tool, (_, roles, _) in enumerate(desk.tools):
            for role, own in enumerate(roles):
                if own == sort[0]:
                    for others in itertools.product(*[comes[kind] for at, kind in enumerate(roles) if at != role]):
                        here = play(desk, tool, others[:role] + (sort[1],) + others[role:])[0]
                        there = play(desk, tool, others[:role] + (sort[2],) + others[role:])[0]
                        gives[sort].add(tuple(given(zip(roles, here, there))))
    bad = {sort for sort in sorts if first[sort] == BAD}
    grown = {sort for sort in sorts if first[sort] == GROWS}
    for _ in sorts:
        bad |= {sort for sort in sorts if any(bad & set(pairs) for pairs in gives[sort])}
        grown |= {sort for sort in sorts if any(grown & set(pairs) for pairs in gives[sort])}
    numbers = {sort: first[sort][1] if len(first[sort]) == 2 else 1 for sort in sorts}
    best, middle = dict(numbers), None
    for layer in range(4 * len(sorts) + 4):
        best = {sort: max([numbers[sort]] + [sum(best[pair] for pair in pairs) for pairs in gives[sort]]) for sort in sorts}
        if layer == len(sorts):
            middle = dict(best)
    found = []
    for sort in sorted(sorts):
        value = BAD if sort in bad else GROWS if sort in grown or best[sort] > middle[sort] else ("most", best[sort])
        found.append((sort, value))
    return tuple(found)


def random_house(rng, letter, seam=None, repairs=None):
    """A house with this seam, if one is told, and names of its own."""
    seam = seam or tuple(("s" + "ab"[at], many) for at, many in enumerate(rng.choice([(2,), (3,), (2, 2), (3, 2), (4,)])))
    manys = [many for _, many in seam]
    if repairs is None:
        repairs = random_repairs(rng, manys, 4, rng.choice([0.6, 1.0]))
    kinds = list(seam)
    if rng.random() < 0.6:
        kinds.append(("own" + letter, 2))
        manys.append(2)
        repairs = repairs + tuple((len(seam),) + one[1:] for one in random_repairs(rng, [2], 4, 0.8))
    tools = []
    for at in range(rng.randint(1, 3)):
        roles = tuple(rng.randrange(len(kinds)) for _ in range(rng.randint(1, 2)))
        fill = rng.choice([0.15, 0.3, 0.6])
        rows = [(before, tuple(rng.randrange(manys[kind]) for kind in roles)) for before in befores_of(manys, roles) if rng.random() < fill]
        tools.append(("t" + letter + "abc"[at], roles, rows))
    return House(Desk(kinds, tools, repairs), len(seam))


def random_pair(rng):
    one = random_house(rng, "x")
    repairs = tuple(repair for repair in one.desk.repairs if repair[0] < one.many)
    return one, random_house(rng, "y", one.desk.kinds[:one.many], repairs)


def random_contract(rng, house, raised=0.3):
    lots = rng.choice(closed_lots(house))
    rows = []
    for kind, lot in enumerate(lots):
        for x, y in itertools.permutations(lot, 2):
            value = first_of(house.desk, (kind, x, y))
            if rng.random() < raised:
                value = rng.choice([BAD, GROWS, ("most", value[1] + rng.randint(0, 5))]) if value != BAD else BAD
            rows.append(((kind, x, y), value))
    return (lots, tuple(rows))


class Tables(Case):
    def test_by_hand(self):
        lots = ((0, 1, 2),)
        plain = (lots, tuple(((0, x, y), first_of(BOUGHT, (0, x, y))) for x, y in itertools.permutations(range(3), 2)))
        self.same(contract_table(ALONE, plain), guard_table(BOUGHT, (), ()))
        self.same(dict(contract_table(ALONE, as_lists(plain)))[(0, 1, 0)], ("most", 3))
        # told dearer, so dearer where it is come to
        dearer = (lots, tuple((sort, ("most", 9) if sort == (0, 2, 1) else value) for sort, value in plain[1]))
        self.same(dict(contract_table(house=ALONE, contract=dearer))[(0, 2, 0)], ("most", 9))
        self.same(dict(contract_table(ALONE, dearer))[(0, 1, 0)], ("most", 9))
        grown = (lots, tuple((sort, GROWS if sort == (0, 2, 1) else value) for sort, value in plain[1]))
        self.same(dict(contract_table(ALONE, grown))[(0, 1, 0)], GROWS)
        lost = (lots, tuple((sort, BAD if sort == (0, 2, 1) else value) for sort, value in plain[1]))
        self.same(dict(contract_table(ALONE, lost))[(0, 1, 0)], BAD)
        self.same(contract_table(BOXED, (((0,),), ())), ())
        found = dict(contract_table(BOXED, (((0, 2),), (((0, 0, 2), BAD), ((0, 2, 0), ("most", 3))))))
        self.same(found, {(0, 0, 2): BAD, (0, 2, 0): ("most", 5), (1, 0, 1): BAD, (1, 1, 0): ("most", 5)})

    def test_against_telling_again(self):
        rng = self.rng(1)
        seen = {}
        for _ in range(300):
            house = random_house(rng, "x")
            contract = random_contract(rng, house)
            found = contract_table(house, contract)
            self.same(found, table_again(house, contract))
            self.same(contract_table(house, as_lists(contract)), found)
            for _, value in found:
                seen[value[0]] = seen.get(value[0], 0) + 1
        self.assertEqual(len(seen), 3)
        self.assertGreater(min(seen.values()), 50)


class Holds(Case):
    def test_which_are_kept(self):
        rng = self.rng(2)
        seen = {True: 0, False: 0}
        for _ in range(300):
            house = random_house(rng, "x")
            contract = random_contract(rng, house, rng.choice([0, 0.3]))
            want = dict(table_again(house, contract))
            want = all(want[sort] == value for sort, value in contract[1])
            self.same(contract_holds(house, contract), want)
            kept = (contract[0], tuple(row for row in contract_table(house, contract) if row[0][0] < house.many))
            # telling again at the seam what is told there: kept from now on
            self.same(contract_holds(house, kept), True)
            self.same(contract_holds(house, as_lists(kept)), False)
            seen[want] += 1
        self.assertGreater(min(seen.values()), 30)

    def test_any_value_and_spoilt_contracts(self):
        rng = self.rng(3)
        told = least_contract(ALONE, House(COPY3, 1))
        seen = {True: 0, False: 0}
        for value in odd_values() + [list(told), (list(told[0]), told[1]), (told[0], list(told[1])), told[:1], told + ((),), (None, told[1]),
                                     (told[0], told[1][:-1]), (told[0], told[1] + told[1][:1]), (told[0], told[1][::-1]), nested(12)]:
            self.same(contract_holds(ALONE, value), False)
        for _ in range(150):
            house = random_house(rng, "x")
            contract = random_contract(rng, house, 0.2)
            contract = (contract[0], tuple(row for row in contract_table(house, contract) if row[0][0] < house.many))
            for _ in range(8):
                value = spoilt(rng, contract)
                want = False
                if wrong_contract(house, value) is None and is_tuples(value) and no_bools(value):
                    found = dict(table_again(house, value))
                    want = all(found[sort] == kept for sort, kept in value[1])
                self.same(contract_holds(house, value), want)
                seen[want] += 1
        self.assertGreater(min(seen.values()), 5)


COPY3 = Desk((("mail", 3),), (("copy", (0, 0), (((1, 0), (1, 1)),)),), BOUGHT.repairs)


class Least(Case):
    def test_by_hand(self):
        found = least_contract(ALONE, House(COPY3, 1))
        self.same(found[0], ((0, 1, 2),))
        self.same(dict(found[1])[(0, 1, 0)], BAD)
        two = House(Desk(BOUGHT.kinds, (("back", (0,), (((2,), (0,)),)),), BOUGHT.repairs), 1)
        found = least_contract(house=ALONE, other=two)
        self.same(dict(found[1])[(0, 1, 0)], BAD)
        quiet = House(Desk(BOUGHT.kinds, (("none", (0,), ()),), BOUGHT.repairs), 1)
        self.same(least_contract(ALONE, quiet), (((0, 1, 2),), guard_table(BOUGHT, (), ())))

    def test_both_keep_it_and_none_is_less(self):
        rng = self.rng(4)
        for _ in range(120):
            one, other = random_pair(rng)
            found = least_contract(one, other)
            self.assertTrue(is_tuples(found))
            self.same(contract_holds(one, found), True)
            self.same(contract_holds(other, found), True)
            both = [lots for lots in closed_lots(one) if lots in closed_lots(other)]
            self.assertIn(found[0], both)
            for lots in both:
                self.assertTrue(all(set(lot) <= set(more) for lot, more in zip(found[0], lots)))
            joined = join_houses(one, other)
            self.same(found[1], tuple(row for row in guard_table(joined.desk, (), ()) if row[0][0] < one.many))
            # each contract with these lots that both keep bounds it
            for _ in range(6):
                rows = []
                for sort, value in found[1]:
                    least = first_of(one.desk, sort)
                    rows.append((sort, rng.choice([value, value, least, BAD if least == BAD else ("most", least[1] + 1), BAD])))
                if contract_holds(one, (found[0], tuple(rows))) and contract_holds(other, (found[0], tuple(rows))):
                    for (_, value), (_, least) in zip(rows, found[1]):
                        self.assertLessEqual(rank(least), rank(value))

    def test_least_by_raising_from_below(self):
        rng = self.rng(5)
        for _ in range(100):
            one, other = random_pair(rng)
            found = least_contract(one, other)
            # raise what each house tells of the other's until nothing changes, or it grows past all that is least
            rows = tuple((sort, first_of(one.desk, sort)) for sort, _ in found[1])
            for _ in range(40):
                before = rows
                for house in (one, other):
                    told = dict(contract_table(house, (found[0], rows)))
                    rows = tuple((sort, told[sort]) for sort, _ in rows)
                if rows == before:
                    self.same(rows, found[1])
                    break
            else:
                self.assertTrue(any(value == GROWS for _, value in found[1]))


class Errors(Case):
    def test_houses_come_first(self):
        for value in odd_values():
            if isinstance(value, House):
                continue
            self.fails(InvalidHouse, -1, contract_table, value, None)
            self.fails(InvalidHouse, -1, contract_holds, value, None)
            self.fails(InvalidHouse, -1, least_contract, value, None)
            self.fails(InvalidHouse, -1, least_contract, ALONE, value)

    def test_any_value_as_a_contract(self):
        rng = self.rng(6)
        seen = set()
        lots = ((0, 1, 2),)
        for value in odd_values() + [(lots, None), (lots, ()), (((0, 1),), ()), (((0, 2),), ()), (((0,),), ()), ((), ()), (((1, 2),), ())]:
            self.judged(ALONE, value, seen)
            self.judged(BOXED, value, seen)
        for _ in range(250):
            house = random_house(rng, "x")
            contract = random_contract(rng, house)
            for value in (contract, as_lists(contract), (contract[0], contract[1] + contract[1][:1]), (contract[0], contract[1][:-1])):
                self.judged(house, value, seen)
            for _ in range(6):
                self.judged(house, spoilt(rng, rng.choice([contract, as_lists(contract)])), seen)
        self.assertTrue({None, -1, 0, 1, 2} <= seen)

    def judged(self, house, value, seen):
        at = wrong_contract(house, value)
        seen.add(at)
        if at is None:
            self.same(contract_table(house, value), table_again(house, value))
        else:
            self.fails(InvalidContract, at, contract_table, house, value)
            self.same(contract_holds(house, value), False)

    def test_rows(self):
        lots = ((0, 2),)
        right = (((0, 0, 2), BAD), ((0, 2, 0), ("most", 3)))
        self.same(wrong_contract(BOXED, (lots, right)), None)
        for value in (BAD, GROWS, ("most", 3), ("most", 4), ["most", 3]):
            self.assertTrue(contract_table(BOXED, (lots, (right[0], ((0, 2, 0), value)))))
        for value in (("most", 2), ("most", 0), ("most", -1), ("most", True), ("most", "3"), ("right",), "bad", None, ("bad", 0), ()):
            self.fails(InvalidContract, 1, contract_table, BOXED, (lots, (right[0], ((0, 2, 0), value), None)))
        for value in (GROWS, ("most", 10 ** 7), None):
            self.fails(InvalidContract, 0, contract_table, BOXED, (lots, (((0, 0, 2), value), None)))
        self.fails(InvalidContract, 1, contract_table, BOXED, (lots, right[:1]))
        self.fails(InvalidContract, 2, contract_table, BOXED, (lots, right + (None,)))
        self.fails(InvalidContract, 2, contract_table, BOXED, (lots, right + right))
        self.fails(InvalidContract, 0, contract_table, BOXED, (lots, right[::-1]))
        self.fails(InvalidContract, 0, contract_table, BOXED, (((0,),), right))
        self.fails(InvalidContract, -1, contract_table, BOXED, (((0, 3),), right))
        # a sign brings 1, so lots without 1 are not closed for ALONE
        self.fails(InvalidContract, -1, contract_table, ALONE, (lots, right))

    def test_houses_that_can_not_be_joined(self):
        self.fails(InvalidSeam, "seam", least_contract, ALONE, House(MAIL, 1))
        self.fails(InvalidSeam, "tools", least_contract, ALONE, ALONE)
        boxed = House(Desk(BOXED.desk.kinds, (("putt", (0,), ()),), BOXED.desk.repairs), 1)
        self.fails(InvalidSeam, "kinds", least_contract, BOXED, boxed)
        kinds = (("mail", 3),)
        many = [House(Desk(kinds, [(letter + name, (0,), ()) for name in "abcdefghijk"], ()), 1) for letter in "ab"]
        self.fails(InvalidDesk, ("tools", -1), least_contract, *many)

    def test_arguments_stay(self):
        told = as_lists((((0,),), ()))
        contract_table(BOXED, told)
        contract_holds(BOXED, told)
        self.assertEqual(told, [[[0]], []])


if __name__ == "__main__":
    unittest.main()
