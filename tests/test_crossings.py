"""[37], [38]: least crossings, least lots and least breaks, each the paper of the other."""

import collections
import unittest

from lateno.breaks import breaks_table, is_break
from lateno.crossings import crossings_of, least_breaks, least_lots, lists_hold
from lateno.desks import Desk
from lateno.errors import InvalidLots, InvalidOffers, InvalidPromise, InvalidSize
from lateno.guards import all_guards, serves
from lateno.steps import beginnings
from samples import COPY, MAIL, Case, as_lists, is_tuples, nested, no_bools, odd_values, random_desk, spoilt
from test_guards import BOUNDED, COPIES, OFFER, RIGHT, is_guard, lots_of, random_guarded

BUY, SIGN, SEND = ("buy", 0), ("wait", 0), ("wait", 1)
PROMISES = (RIGHT, BOUNDED, ("most", 0), ("most", 3), ("most", 9))


def least(lots):
    return tuple(sorted(lot for lot in set(lots) if not any(set(other) < set(lot) for other in lots)))


def crossings_again(lots):
    marks = sorted({mark for lot in lots for mark in lot})
    return least([lot for lot in lots_of(marks) if all(set(lot) & set(other) for other in lots)])


def is_mark(value):
    if type(value) not in (list, tuple) or len(value) not in (2, 3) or type(value[0]) is not str:
        return False
    return all(type(one) is int and one >= 0 for one in value[1:])


def wrong_lots(value):
    """Told again: the place for which [37] refuses any value, None for lots."""
    if type(value) not in (list, tuple):
        return -1
    for at, lot in enumerate(value):
        if type(lot) not in (list, tuple) or not all(is_mark(one) for one in lot):
            return at
        told = [tuple(one) for one in lot]
        if told != sorted(set(told)):
            return at
    return None


def least_again(desk, offers, tool, promise):
    """(least lots that serve, least breaks), each looked at by itself."""
    guards = all_guards(desk, offers)
    serving = [lot for lot in lots_of(guards) if serves(desk, offers, tool, lot, promise)]
    breaks = [lot for lot in lots_of(guards) if is_break(desk, offers, tool, lot, promise)]
    return least(serving), least(breaks)


def lists_again(desk, offers, tool, promise, lots, breaks):
    """[38] told again for any two values."""
    for value in (lots, breaks):
        if type(value) is not tuple or not is_tuples(value) or not no_bools(value):
            return False
        for lot in value:
            if type(lot) is not tuple or not all(is_guard(desk, offers, one) for one in lot) or list(lot) != sorted(set(lot)):
                return False
    return (lots, breaks) == least_again(desk, offers, tool, promise)


class Crossings(Case):
    def test_by_hand(self):
        self.same(crossings_of(()), ((),))
        self.same(crossings_of(((),)), ())
        self.same(crossings_of([[["a", 1]], []]), ())
        self.same(crossings_of(lots=((BUY, SIGN), (BUY, SEND))), ((BUY,), (SIGN, SEND)))
        self.same(crossings_of(((BUY, SIGN), (SEND,), (BUY, SIGN))), ((BUY, SEND), (SIGN, SEND)))
        self.same(crossings_of(((BUY, SIGN, SEND),)), ((BUY,), (SIGN,), (SEND,)))
        triples = ((("wait", 0, 10 ** 12), ("wait", 1, 0)), (("buy", 3), ("wait", 0)))
        self.same(crossings_of(triples), tuple(sorted(tuple(sorted((one, other))) for one in triples[0] for other in triples[1])))
        self.same(crossings_of(((("", 0), ("x y", 0, 0)),)), ((("", 0),), (("x y", 0, 0),)))

    def test_against_telling_again(self):
        rng = self.rng(1)
        seen = collections.Counter()
        for _ in range(1500):
            marks = [("buy", rng.randint(0, 10 ** 12)), ("buy", 3), ("wait", 0), ("wait", 1), ("wait", 0, 0), ("wait", 1, 0), ("z", 2)]
            lots = [tuple(mark for mark in sorted(marks) if rng.random() < rng.choice([0.2, 0.5])) for _ in range(rng.randint(0, 6))]
            lots = [tuple(sorted(set(lot))) for lot in lots]
            if rng.random() < 0.7:
                lots = [lot for lot in lots if lot]
            found = crossings_of(lots)
            self.same(found, crossings_again(lots))
            self.same(crossings_of(as_lists(lots)), found)
            self.same(crossings_of(found), least(lots))
            seen[min(len(found), 3)] += 1
        self.assertGreater(min(seen[many] for many in range(4)), 50)

    def test_no_lots(self):
        rng = self.rng(2)
        seen = collections.Counter()
        right = ((BUY, SIGN), (("wait", 0, 1),), ())
        values = odd_values() + [spoilt(rng, right) for _ in range(500)]
        values += [(right[0], value) for value in odd_values() + [(SIGN, BUY), (BUY, BUY), (("a", -1),), (("a", True),), (("a",),), (("a", 1, 2, 3),),
                                                                  ((1, 1),), (("a", None),), (["a", 1], ("a", 1)), ("ab",), ("a", 1)]]
        for value in values:
            at = wrong_lots(value)
            seen[at] += 1
            if at is None:
                self.same(crossings_of(value), crossings_again([tuple(tuple(one) for one in lot) for lot in value]))
            else:
                self.fails(InvalidLots, at, crossings_of, value)
        self.assertGreater(min(seen[at] for at in (None, -1, 0, 1, 2)), 5)


class Least(Case):
    def test_by_hand(self):
        self.same(least_lots(MAIL, (), 0, RIGHT), ((SIGN,), (SEND,)))
        self.same(least_breaks(MAIL, (), 0, RIGHT), ((SIGN, SEND),))
        self.same(least_lots(MAIL, OFFER, 0, RIGHT), ((BUY,), (SIGN,), (SEND,)))
        self.same(least_breaks(desk=MAIL, offers=OFFER, tool=0, promise=RIGHT), ((BUY, SIGN, SEND),))
        self.same(least_lots(MAIL, OFFER, 0, ("most", 1)), ((SEND,),))
        self.same(least_breaks(MAIL, OFFER, 0, ("most", 1)), ((SEND,),))
        self.same(least_lots(MAIL, OFFER, 0, ("most", 0)), ())
        self.same(least_breaks(MAIL, OFFER, 0, ("most", 0)), ((),))
        self.same(least_lots(MAIL, as_lists(OFFER), 1, ["right"]), ((BUY,),))
        self.same(least_lots(Desk((("a", 2),), (("no", (0,), ()),), ()), (), 0, ("most", 0)), ((),))
        self.same(least_breaks(Desk((("a", 2),), (("no", (0,), ()),), ()), (), 0, ("most", 0)), ())
        self.same(least_lots(desk=COPIES, offers=(), tool=0, promise=BOUNDED), ((("wait", 1), ("wait", 2)),))

    def test_several_of_both(self):
        # what is set may mark a b and a c; each mark can be put right only if that is bought
        desk = Desk((("a", 2), ("b", 2), ("c", 2)), (
            ("set", (0,), (((0,), (1,)),)), ("markb", (0, 1), (((1, 0), (1, 1)),)), ("markc", (0, 2), (((1, 0), (1, 1)),)),
        ), ((0, 1, 0, 1),))
        offers = ((1, 1, 0, 2), (2, 1, 0, 3))
        one, other, markb, markc = ("buy", 0), ("buy", 1), ("wait", 1), ("wait", 2)
        breaks = ((one, markb), (other, markc))
        lots = ((one, other), (one, markc), (other, markb), (markb, markc))
        self.same(least_breaks(desk, offers, 0, RIGHT), breaks)
        self.same(least_lots(desk, offers, 0, RIGHT), lots)
        self.same(least_again(desk, offers, 0, RIGHT), (lots, breaks))
        self.same(lists_hold(desk, offers, 0, RIGHT, lots, breaks), True)
        for at in range(4):
            self.same(lists_hold(desk, offers, 0, RIGHT, lots[:at] + lots[at + 1:], breaks), False)
            self.same(lists_hold(desk, offers, 0, RIGHT, lots[:at] + (lots[at][1:],) + lots[at + 1:], breaks), False)
        for bound, kept in ((BOUNDED, (markb, markc)), (("most", 1), (markb, markc))):
            self.same(least_lots(desk, offers, 0, bound), (kept,))

    def test_against_telling_again(self):
        rng = self.rng(3)
        seen = collections.Counter()
        for _ in range(80):
            desk, offers, _ = random_guarded(rng)
            tool = rng.randrange(len(desk.tools))
            for promise in rng.sample(PROMISES, 2):
                lots, breaks = least_again(desk, offers, tool, promise)
                self.same(least_lots(desk, offers, tool, promise), lots)
                self.same(least_breaks(desk, offers, tool, promise), breaks)
                self.same((crossings_of(breaks), crossings_of(lots)), (lots, breaks))
                self.same(lists_hold(desk, offers, tool, promise, lots, breaks), True)
                seen[(min(len(lots), 2), min(len(breaks), 2))] += 1
        self.assertGreater(len(seen), 3)

    def test_breaks_of_right_are_those_of_what_a_tool_begins_with(self):
        rng = self.rng(4)
        for _ in range(60):
            desk, offers, _ = random_guarded(rng)
            told = dict(breaks_table(desk, offers))
            for tool in range(len(desk.tools)):
                pairs = {pair for _, row in beginnings(desk, tool) for pair in row if pair[1] != pair[2]}
                self.same(least_breaks(desk, offers, tool, RIGHT), least([lot for pair in pairs for lot in told[pair]]))

    def test_more_tools(self):
        # the bench asks for desks of five tools
        rng = self.rng(5)
        for _ in range(8):
            desk = random_desk(rng, kinds=2, states=3, tools=5, roles=2, fill=0.3)
            self.same((least_lots(desk, (), 0, RIGHT), least_breaks(desk, (), 0, RIGHT)), least_again(desk, (), 0, RIGHT))


class Papers(Case):
    def test_spoilt_lists(self):
        rng = self.rng(6)
        seen = {True: 0, False: 0}
        for _ in range(120):
            desk, offers, _ = random_guarded(rng)
            tool = rng.randrange(len(desk.tools))
            promise = rng.choice(PROMISES)
            lots, breaks = least_lots(desk, offers, tool, promise), least_breaks(desk, offers, tool, promise)
            guards = all_guards(desk, offers)
            some = tuple(guard for guard in guards if rng.random() < 0.5)
            one, other = (lots, breaks), (breaks, lots)
            values = [one, other, (list(lots), breaks), (lots, list(breaks)), (lots[1:], breaks), (lots, breaks[:-1]), (lots + lots[:1], breaks),
                      (lots[::-1], breaks), (tuple(sorted(lots + (some,))), breaks), (lots, tuple(sorted(breaks + (some,)))), (as_lists(lots), breaks),
                      (tuple(lot[1:] for lot in lots), breaks), (tuple(sorted(tuple(sorted(set(lot + some))) for lot in lots)), breaks)]
            values += [(spoilt(rng, lots), breaks) for _ in range(4)] + [(lots, spoilt(rng, breaks)) for _ in range(4)]
            # lists that are each other's crossings, but of other lots
            drawn = [tuple(guard for guard in guards if rng.random() < 0.5) for _ in range(3)]
            values.append((crossings_of(drawn), crossings_of(crossings_of(drawn))))
            for told, others in values:
                want = lists_again(desk, offers, tool, promise, told, others)
                self.same(lists_hold(desk, offers, tool, promise, told, others), want)
                seen[want] += 1
        self.assertGreater(min(seen.values()), 100)

    def test_any_value(self):
        lots, breaks = ((SIGN,), (SEND,)), ((SIGN, SEND),)
        self.same(lists_hold(desk=MAIL, offers=(), tool=0, promise=RIGHT, lots=lots, breaks=breaks), True)
        self.same(lists_hold(MAIL, [], 0, list(RIGHT), lots, breaks), True)
        for value in odd_values() + [(("wait", 0),), ((("wait", True),),), ((("wait", 2),),), ((("buy", 0),),)]:
            self.same(lists_hold(MAIL, (), 0, RIGHT, value, breaks), False)
            self.same(lists_hold(MAIL, (), 0, RIGHT, lots, value), False)
        # lists within, and bools that are equal to numbers
        for wrong in (((["wait", 0],), (SEND,)), ([SIGN], (SEND,)), ((("wait", False),), (SEND,)), ((SIGN,), (("wait", True),)), ((SIGN,), ["wait"])):
            self.same(lists_hold(MAIL, (), 0, RIGHT, wrong, breaks), False)
        for wrong in (((["wait", 0], SEND),), ([SIGN, SEND],), ((("wait", False), SEND),), ((SIGN, ("wait", True)),), ((SIGN, ["wait", 1]),)):
            self.same(lists_hold(MAIL, (), 0, RIGHT, lots, wrong), False)
        self.same(lists_hold(MAIL, OFFER, 0, ("most", 0), (), ((),)), True)
        self.same(lists_hold(MAIL, OFFER, 0, ("most", 0), ((),), ()), False)
        self.same(lists_hold(COPY, (), 1, RIGHT, ((),), ()), False)


class Errors(Case):
    def test_each_ahead_of_the_next(self):
        for call, rest in ((least_lots, ()), (least_breaks, ()), (lists_hold, (None, None))):
            for value in (None, 0, "ab", MAIL):
                self.fails(InvalidOffers, -1, call, MAIL, value, None, None, *rest)
            self.fails(InvalidOffers, 1, call, MAIL, OFFER + OFFER, None, None, *rest)
            for value in (2, -1, True, None, "sign", (0,)):
                self.fails(InvalidSize, "tool", call, MAIL, OFFER, value, None, *rest)
            for value in (None, 0, "ab", (), ("right", 0), ("most",), ("most", -1), ("most", True), ("bad",), nested(12)):
                self.fails(InvalidPromise, -1, call, MAIL, OFFER, 0, value, *rest)


if __name__ == "__main__":
    unittest.main()
