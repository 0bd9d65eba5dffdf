"""[39], [40]: stairs, what is least from them, several tools that run ahead, what is cheapest for them."""

import collections
import unittest

from lateno.bought import cheapest, lots_from, stairs, whole_breaks, whole_lots
from lateno.crossings import crossings_of, least_breaks, least_lots
from lateno.desks import Desk
from lateno.errors import InvalidCosts, InvalidOffers, InvalidPromise, InvalidSize, InvalidTools
from lateno.guards import all_guards, is_kept, value_of
from samples import MAIL, Case, as_lists, nested, odd_values, random_desk, random_repairs, spoilt
from test_crossings import least
from test_guards import BOUNDED, COPIES, OFFER, RIGHT, lots_of, random_guarded

BUY, SIGN, SEND = ("buy", 0), ("wait", 0), ("wait", 1)
PROMISES = (RIGHT, BOUNDED, ("most", 0), ("most", 3), ("most", 9))
BY_HAND = (((), ("bad",)), ((BUY,), ("most", 3)), ((SIGN,), ("most", 3)), ((SEND,), ("most", 1)))


def rank(value):
    return {"most": 0, "grows": 1, "bad": 2}[value[0]], value[1:]


def stairs_again(desk, offers, tool):
    values = {lot: value_of(desk, offers, tool, lot) for lot in lots_of(all_guards(desk, offers))}
    return tuple(sorted((lot, value) for lot, value in values.items()
                        if all(rank(value) < rank(values[other]) for other in lots_of(lot) if other != lot)))


def whole_guards(desk, offers, tools):
    return [("buy", number) for number in range(len(offers))] + [("wait", tool, other) for tool in tools for other in range(len(desk.tools))]


def keeps_whole(desk, offers, tools, promise, lot):
    for tool in tools:
        own = [guard for guard in lot if len(guard) == 2] + [("wait", guard[2]) for guard in lot if len(guard) == 3 and guard[1] == tool]
        if not is_kept(value_of(desk, offers, tool, own), promise):
            return False
    return True


def whole_again(desk, offers, tools, promise):
    """(least lots, least breaks) of the whole, each lot looked at by itself."""
    guards = whole_guards(desk, offers, tools)
    kept = [lot for lot in lots_of(guards) if keeps_whole(desk, offers, tools, promise, lot)]
    rests = {tuple(guard for guard in guards if guard not in lot) for lot in lots_of(guards) if lot not in set(kept)}
    return least(kept), least(rests), kept


def random_whole(rng):
    """(desk, offers, tools) of one kind of up to three states and two tools."""
    desk = random_desk(rng, kinds=1, states=3, tools=2, price=4, fill=rng.choice([0.3, 0.5]))
    many = desk.kinds[0][1]
    repairs = random_repairs(rng, [many], 4, rng.choice([0.5, 0.9]))
    offers = random_repairs(rng, [many], 4, 0.4)
    offers = tuple(sorted(rng.sample(offers, min(2, len(offers)))))
    tools = tuple(tool for tool in range(len(desk.tools)) if rng.random() < 0.8) or (0,)
    return Desk(desk.kinds, desk.tools, repairs), offers, tools


def wrong_tools(desk, value):
    """Told again: the place for which [40] refuses any value as tools, None if it is right."""
    if type(value) not in (list, tuple) or not value:
        return -1
    for at, one in enumerate(value):
        if type(one) is not int or not 0 <= one < len(desk.tools) or any(other >= one for other in value[:at]):
            return at
    return None


def wrong_costs(guards, value):
    if type(value) not in (list, tuple) or len(value) != len(guards):
        return -1
    for at, (guard, row) in enumerate(zip(guards, value)):
        if type(row) not in (list, tuple) or len(row) != 2 or type(row[0]) not in (list, tuple) or type(row[1]) is not int or row[1] < 1:
            return at
        if tuple(row[0]) != guard or any(type(one) is bool for one in row[0]):
            return at
    return None


class Stairs(Case):
    def test_by_hand(self):
        self.same(stairs(MAIL, OFFER, 0), BY_HAND)
        self.same(stairs(desk=MAIL, offers=as_lists(OFFER), tool=1), (((), ("bad",)), ((BUY,), ("most", 2))))
        self.same(stairs(MAIL, (), 0), tuple(row for row in BY_HAND if BUY not in row[0]))
        self.same(stairs(Desk((("a", 2),), (("no", (0,), ()),), ()), (), 0), (((), ("most", 0)),))
        self.same(stairs(COPIES, (), 0), (((), ("bad",)), ((("wait", 1), ("wait", 2)), ("most", 1)), ((("wait", 2),), ("grows",))))

    def test_what_is_least_from_them(self):
        self.same(lots_from(BY_HAND, RIGHT), ((BUY,), (SIGN,), (SEND,)))
        self.same(lots_from(rows=BY_HAND, promise=("most", 3)), ((BUY,), (SIGN,), (SEND,)))
        self.same(lots_from(as_lists(BY_HAND), ["most", 2]), ((SEND,),))
        self.same(lots_from(BY_HAND, ("most", 0)), ())
        self.same(lots_from((), RIGHT), ())
        self.same(lots_from(BY_HAND[::-1] + BY_HAND[:3], BOUNDED), ((BUY,), (SIGN,), (SEND,)))
        self.same(lots_from(BY_HAND[:2], BOUNDED), ((BUY,),))

    def test_against_telling_again(self):
        rng = self.rng(1)
        seen = collections.Counter()
        for _ in range(150):
            desk, offers, _ = random_guarded(rng)
            tool = rng.randrange(len(desk.tools))
            found = stairs(desk, offers, tool)
            self.same(found, stairs_again(desk, offers, tool))
            seen[min(len(found), 4)] += 1
            for promise in PROMISES + tuple(("most", value[1] + more) for _, value in found if value[0] == "most" for more in (-1, 0, 1)):
                if promise[-1] != -1:
                    self.same(lots_from(found, promise), least_lots(desk, offers, tool, promise))
        self.assertGreater(min(seen[many] for many in range(1, 4)), 5)


class Whole(Case):
    def test_by_hand(self):
        guards = tuple(whole_guards(MAIL, OFFER, (0, 1)))
        self.same(whole_breaks(MAIL, OFFER, (0, 1), RIGHT), ((BUY,),))
        self.same(whole_lots(MAIL, OFFER, (0, 1), RIGHT), ((BUY,),))
        self.same(whole_breaks(desk=MAIL, offers=OFFER, tools=(0,), promise=RIGHT), ((BUY, ("wait", 0, 0), ("wait", 0, 1)),))
        self.same(whole_lots(MAIL, as_lists(OFFER), [0], ["right"]), ((BUY,), (("wait", 0, 0),), (("wait", 0, 1),)))
        self.same(whole_lots(MAIL, OFFER, (0, 1), ("most", 2)), ((BUY, ("wait", 0, 1)),))
        self.same(whole_lots(MAIL, (), (0, 1), RIGHT), ())
        self.same(whole_breaks(MAIL, (), (0, 1), RIGHT), ((),))
        costs = [(guard, cost) for guard, cost in zip(guards, (7, 3, 4, 1, 1))]
        self.same(cheapest(MAIL, OFFER, (0, 1), RIGHT, costs), (7, ((BUY,),)))
        self.same(cheapest(MAIL, OFFER, (0, 1), ("most", 2), as_lists(costs)), (11, ((BUY, ("wait", 0, 1)),)))
        self.same(cheapest(MAIL, (), (0, 1), RIGHT, costs[1:]), None)
        one = [(BUY, 4), (("wait", 0, 0), 5), (("wait", 0, 1), 4)]
        self.same(cheapest(desk=MAIL, offers=OFFER, tools=(0,), promise=RIGHT, costs=one), (4, ((BUY,), (("wait", 0, 1),))))
        self.same(cheapest(MAIL, OFFER, (0,), RIGHT, [(guard, 10 ** 6) for guard, _ in one]), (10 ** 6, ((BUY,), (("wait", 0, 0),), (("wait", 0, 1),))))
        free = Desk((("a", 2),), (("no", (0,), ()),), ())
        self.same(cheapest(free, (), (0,), RIGHT, [(("wait", 0, 0), 3)]), (0, ((),)))

    def test_one_repair_in_the_place_of_many_waits(self):
        # two tools begin with the same sort, each with waits of its own
        desk = Desk(MAIL.kinds, MAIL.tools[:1] + (("seal", (0,), (((0,), (1,)),)),) + MAIL.tools[1:], MAIL.repairs)
        lots = whole_lots(desk, OFFER, (0, 1), RIGHT)
        self.assertIn((BUY,), lots)
        self.assertIn((("wait", 0, 2), ("wait", 1, 2)), lots)
        costs = [(guard, 5 if guard == BUY else 2) for guard in whole_guards(desk, OFFER, (0, 1))]
        self.same(cheapest(desk, OFFER, (0, 1), RIGHT, costs), (4, ((("wait", 0, 2), ("wait", 1, 2)),)))
        costs = [(guard, 3 if guard == BUY else 2) for guard in whole_guards(desk, OFFER, (0, 1))]
        self.same(cheapest(desk, OFFER, (0, 1), RIGHT, costs), (3, ((BUY,),)))
        costs = [(guard, 4 if guard == BUY else 2) for guard in whole_guards(desk, OFFER, (0, 1))]
        self.same(cheapest(desk, OFFER, (0, 1), RIGHT, costs), (4, ((BUY,), (("wait", 0, 2), ("wait", 1, 2)))))

    def test_against_telling_again(self):
        rng = self.rng(2)
        seen = collections.Counter()
        for _ in range(200):
            desk, offers, tools = random_whole(rng)
            for promise in rng.sample(PROMISES, 2):
                lots, breaks, kept = whole_again(desk, offers, tools, promise)
                self.same(whole_lots(desk, offers, tools, promise), lots)
                self.same(whole_breaks(desk, offers, tools, promise), breaks)
                self.same((crossings_of(breaks), crossings_of(lots)), (lots, breaks))
                told = [tuple(guard if guard[0] == "buy" else ("wait", tool, guard[1]) for guard in lot)
                        for tool in tools for lot in least_breaks(desk, offers, tool, promise)]
                self.same(breaks, least(told))
                top = rng.choice([2, 5, 10 ** 6])
                costs = {guard: rng.randint(1, top) for guard in whole_guards(desk, offers, tools)}
                sums = {lot: sum(costs[guard] for guard in lot) for lot in kept}
                want = None
                if sums:
                    best = min(sums.values())
                    want = (best, tuple(sorted(lot for lot in sums if sums[lot] == best)))
                self.same(cheapest(desk, offers, tools, promise, tuple(costs.items())), want)
                seen[(len(tools), want is None, want is not None and min(len(want[1]), 2))] += 1
        self.assertGreater(min(seen[(many, none, 1 if not none else False)] for many in (1, 2) for none in (True, False)), 10)


class Errors(Case):
    def test_each_ahead_of_the_next(self):
        calls = ((whole_lots, ()), (whole_breaks, ()), (cheapest, (None,)))
        for value in (None, 0, "ab", MAIL):
            self.fails(InvalidOffers, -1, stairs, MAIL, value, None)
            for call, rest in calls:
                self.fails(InvalidOffers, -1, call, MAIL, value, None, None, *rest)
        for call, rest in calls:
            self.fails(InvalidOffers, 1, call, MAIL, OFFER + OFFER, None, None, *rest)
            for value in (None, 0, "ab", (), ("right", 0), ("most",), ("most", -1), ("most", True), ("bad",), nested(12)):
                self.fails(InvalidPromise, -1, call, MAIL, OFFER, (0,), value, *rest)
        for value in (None, 0, (), ("right", 0), ("most",), ("most", -1), ("most", True), nested(12)):
            self.fails(InvalidPromise, -1, lots_from, BY_HAND, value)
            self.fails(InvalidPromise, -1, lots_from, (), value)
        for value in (2, -1, True, None, "sign", (0,)):
            self.fails(InvalidSize, "tool", stairs, MAIL, OFFER, value)

    def test_tools(self):
        rng = self.rng(3)
        seen = collections.Counter()
        for value in odd_values() + [(0, 1), [1], (1, 0), (0, 0), (0, 2)] + [spoilt(rng, (0, 1)) for _ in range(200)]:
            at = wrong_tools(MAIL, value)
            seen[at] += 1
            for call, rest in ((whole_lots, ()), (whole_breaks, ()), (cheapest, (None,))):
                if at is not None:
                    self.fails(InvalidTools, at, call, MAIL, OFFER, value, None, *rest)
                elif not rest:
                    self.same(call(MAIL, OFFER, value, RIGHT), call(MAIL, OFFER, tuple(value), RIGHT))
        self.assertGreater(min(seen[at] for at in (None, -1, 0, 1)), 3)

    def test_costs(self):
        rng = self.rng(4)
        guards = whole_guards(MAIL, OFFER, (0, 1))
        right = tuple((guard, at + 1) for at, guard in enumerate(guards))
        seen = collections.Counter()
        values = odd_values() + [right, as_lists(right), right[1:], right[::-1], right + right[:1], right[:1] * 5]
        values += [right[:2] + (value,) + right[3:] for value in odd_values() + [(guards[2], 0), (guards[2], True), (guards[2], -3), (guards[1], 2),
                                                                               (("wait", 0, True), 1), (guards[2], 1, 1), (list(guards[2]), 9)]]
        values += [spoilt(rng, right) for _ in range(300)]
        for value in values:
            at = wrong_costs(guards, value)
            seen[at] += 1
            if at is None:
                found = cheapest(MAIL, OFFER, (0, 1), RIGHT, value)
                self.same(found, (value[0][1], ((BUY,),)))
            else:
                self.fails(InvalidCosts, at, cheapest, MAIL, OFFER, (0, 1), RIGHT, value)
        self.assertGreater(min(seen[at] for at in (None, -1, 0, 1, 2, 3, 4)), 2)


if __name__ == "__main__":
    unittest.main()
