"""[32], [33]: guards, what is bought, values of a No under lots, promises."""

import itertools
import unittest

from lateno.desks import Desk
from lateno.errors import InvalidLot, InvalidOffers, InvalidPromise, InvalidSize
from lateno.guards import all_guards, guard_table, is_kept, serves, value_of, with_bought
from lateno.pairs import least_price
from lateno.reach import sorts
from lateno.steps import beginnings, played, steps
from lateno.twins import apart
from samples import COPY, MAIL, Case, as_lists, is_tuples, nested, odd_values, random_desk, random_repairs, random_things
from samples import random_try, spoilt

OFFER = ((0, 2, 1, 2),)
BAD, GROWS = ("bad",), ("grows",)
RIGHT, BOUNDED = ("right",), ("bounded",)
PROMISES = (RIGHT, BOUNDED, ("most", 0), ("most", 3), ("most", 2 * 10 ** 9))
# sign and copy: each copy of a signed mail is a signed one more
COPIES = Desk(
    (("mail", 3),),
    (("sign", (0,), (((0,), (1,)),)), ("copy", (0, 0), (((1, 0), (1, 1)),)), ("burn", (0,), (((1,), (2,)),))),
    ((0, 0, 1, 1), (0, 1, 0, 1)),
)


def lots_of(guards):
    """All lots of these guards."""
    return [lot for many in range(len(guards) + 1) for lot in itertools.combinations(guards, many)]


def table_again(desk, offers, lot):
    """For each sort its value under the lot, told again by layers of trees."""
    prices = {one[:3]: one[3] for one in desk.repairs}
    for word, number in lot:
        if word == "buy":
            way, price = offers[number][:3], offers[number][3]
            prices[way] = min(price, prices.get(way, price))
    bought = Desk(desk.kinds, desk.tools, [way + (prices[way],) for way in sorted(prices)])
    waits = [number for word, number in lot if word == "wait"]
    gives, base = {}, {}
    for sort in sorts(desk):
        base[sort] = least_price(bought, *sort)
        told = [played(desk, sort, step)[2] for step in steps(desk, sort) if step[0] not in waits]
        gives[sort] = {tuple(pair for pair in pairs if pair[1] != pair[2]) for pairs in told}
    bad = {sort for sort in base if base[sort] is None}
    for _ in base:
        bad |= {sort for sort in base if any(bad & set(given) for given in gives[sort])}
    best = [{sort: base[sort] or 0 for sort in base}]
    # a sort's number can only grow past so many layers if it grows for ever
    for _ in range(4 * len(base) + 4):
        last = best[-1]
        best.append({sort: max([base[sort] or 0] + [sum(last[other] for other in given) for given in gives[sort]]) for sort in base})
    found = {}
    for sort in base:
        grows = best[-1][sort] > best[len(base) + 1][sort]
        found[sort] = BAD if sort in bad else GROWS if grows else ("most", best[-1][sort])
    return found


def value_again(desk, offers, tool, lot):
    told = table_again(desk, offers, lot)
    rows = [[told[pair] for pair in pairs if pair[1] != pair[2]] for _, pairs in beginnings(desk, tool)]
    flat = [value for row in rows for value in row]
    if BAD in flat:
        return BAD
    if GROWS in flat:
        return GROWS
    return ("most", max([sum(value[1] for value in row) for row in rows] + [0]))


def is_guard(desk, offers, value):
    if type(value) not in (list, tuple) or len(value) != 2 or type(value[1]) is not int:
        return False
    if value[0] == "buy":
        return 0 <= value[1] < len(offers)
    return value[0] == "wait" and 0 <= value[1] < len(desk.tools)


def wrong_lot(desk, offers, value):
    """Told again: the first place of what is no lot of guards, None for one."""
    if type(value) not in (list, tuple):
        return -1
    for at, one in enumerate(value):
        if not is_guard(desk, offers, one) or any(tuple(other) >= tuple(one) for other in value[:at]):
            return at
    return None


def random_guarded(rng):
    """(desk, offers, lot)."""
    one = rng.random() < 0.5
    desk = random_desk(rng, kinds=1 if one else 2, states=4 if one else 3, tools=4, price=4, fill=rng.choice([0.15, 0.3, 0.5]))
    offers = random_repairs(rng, [kind[1] for kind in desk.kinds], 4, 0.3)
    if len(offers) > 2:
        offers = tuple(sorted(rng.sample(offers, 2)))
    if rng.random() < 0.6:
        # all repaired, so that not nearly all is bad
        told = {one[:3]: one[3] for one in desk.repairs}
        ways = [(k, x, y) for k, (_, many) in enumerate(desk.kinds) for x in range(many) for y in range(many) if x != y]
        desk = Desk(desk.kinds, desk.tools, [way + (told.get(way, 4),) for way in ways if rng.random() < 0.9])
    guards = all_guards(desk, offers)
    return desk, offers, tuple(guard for guard in guards if rng.random() < 0.4)


class Guards(Case):
    def test_all_guards(self):
        self.same(all_guards(MAIL, OFFER), (("buy", 0), ("wait", 0), ("wait", 1)))
        self.same(all_guards(desk=MAIL, offers=[]), (("wait", 0), ("wait", 1)))
        self.same(all_guards(Desk((("a", 3),), (), ()), [[0, 0, 1, 1], [0, 1, 2, 1]]), (("buy", 0), ("buy", 1)))
        self.same(all_guards(Desk((("a", 3),), (), ()), ()), ())

    def test_what_is_bought(self):
        offers = ((0, 1, 0, 5), (0, 2, 0, 1), (0, 2, 1, 1000000))
        self.same(with_bought(MAIL, offers, ()).told, MAIL.told)
        self.same(with_bought(MAIL, offers, (("wait", 0), ("wait", 1))).told, MAIL.told)
        self.same(with_bought(MAIL, offers, (("buy", 0),)).repairs, ((0, 1, 0, 1), (0, 2, 0, 3)))
        self.same(with_bought(MAIL, as_lists(offers), [["buy", 1], ["buy", 2], ["wait", 0]]).told,
                  (MAIL.kinds, MAIL.tools, ((0, 1, 0, 1), (0, 2, 0, 1), (0, 2, 1, 1000000))))
        self.same(with_bought(desk=MAIL, offers=offers, lot=(("buy", 2),)).repairs, MAIL.repairs + ((0, 2, 1, 1000000),))
        self.assertIsInstance(with_bought(MAIL, offers, ()), Desk)
        self.same(MAIL.repairs, ((0, 1, 0, 1), (0, 2, 0, 3)))

    def test_the_cheaper_one_whichever_is_bought(self):
        rng = self.rng(1)
        for _ in range(200):
            desk, _, _ = random_guarded(rng)
            offers = random_repairs(rng, [kind[1] for kind in desk.kinds], 10 ** 6)
            lot = tuple(guard for guard in all_guards(desk, offers) if rng.random() < 0.5)
            told = {one[:3]: one[3] for one in desk.repairs}
            for word, number in lot:
                if word == "buy":
                    way = offers[number][:3]
                    told[way] = min(offers[number][3], told.get(way, 10 ** 7))
            self.same(with_bought(desk, offers, lot).told, (desk.kinds, desk.tools, tuple(way + (told[way],) for way in sorted(told))))


class Values(Case):
    def test_by_hand(self):
        self.same(guard_table(MAIL, OFFER, ()), (
            ((0, 0, 1), BAD), ((0, 0, 2), BAD), ((0, 1, 0), BAD), ((0, 1, 2), BAD), ((0, 2, 0), BAD), ((0, 2, 1), BAD),
        ))
        self.same(guard_table(MAIL, as_lists(OFFER), [["buy", 0]])[2:], (
            ((0, 1, 0), ("most", 3)), ((0, 1, 2), BAD), ((0, 2, 0), ("most", 3)), ((0, 2, 1), ("most", 2)),
        ))
        self.same(guard_table(desk=MAIL, offers=OFFER, lot=(("wait", 0),))[2], ((0, 1, 0), ("most", 3)))
        self.same(value_of(MAIL, OFFER, 0, ()), BAD)
        self.same(value_of(MAIL, OFFER, 0, (("buy", 0),)), ("most", 3))
        self.same(value_of(MAIL, as_lists(OFFER), 0, [["wait", 0]]), ("most", 3))
        self.same(value_of(desk=MAIL, offers=OFFER, tool=0, lot=(("wait", 1),)), ("most", 1))
        self.same(value_of(MAIL, OFFER, 0, (("wait", 0), ("wait", 1))), ("most", 1))

    def test_rings(self):
        self.same(value_of(COPIES, (), 0, ()), BAD)
        self.same(value_of(COPIES, (), 0, (("wait", 2),)), GROWS)
        self.same(value_of(COPIES, (), 0, (("wait", 1), ("wait", 2))), ("most", 1))
        self.same(dict(guard_table(COPIES, (), (("wait", 2),)))[(0, 1, 0)], GROWS)
        self.same(dict(guard_table(COPIES, (), (("wait", 2),)))[(0, 2, 1)], BAD)

    def test_a_ring_without_anything_beside_does_not_grow(self):
        turn = Desk((("a", 3),), (("turn", (0,), (((0,), (1,)), ((1,), (2,)), ((2,), (0,)))),), (
            (0, 0, 1, 1), (0, 0, 2, 5), (0, 1, 0, 3), (0, 1, 2, 2), (0, 2, 0, 9), (0, 2, 1, 7)))
        self.same([value for _, value in guard_table(turn, (), ())], [("most", most) for most in (9, 7, 7, 9, 9, 7)])
        waits = (("wait", 0),)
        self.same([value for _, value in guard_table(turn, (), waits)], [("most", most) for most in (1, 3, 3, 2, 9, 7)])
        self.same(value_of(turn, (), 0, ()), ("most", 7))

    def test_a_tool_without_beginnings_and_one_that_turns_nothing(self):
        desk = Desk((("a", 3),), (("none", (0,), ()), ("far", (0,), (((2,), (1,)),)), ("same", (0,), (((0,), (0,)),))), ())
        for tool in range(3):
            self.same(value_of(desk, (), tool, ()), ("most", 0))
        self.same(guard_table(desk, (), ()), ())

    def test_others_are_set_ready_by_tools_that_wait(self):
        desk = Desk((("a", 3), ("b", 2)), (
            ("go", (0,), (((0,), (1,)),)), ("push", (0, 1), (((1, 1), (2, 1)),)), ("mark", (1,), (((0,), (1,)),)),
        ), ((0, 1, 0, 1), (0, 2, 0, 7)))
        self.same(value_of(desk, (), 0, (("wait", 0), ("wait", 2))), ("most", 7))
        self.same(value_of(desk, (), 0, (("wait", 0), ("wait", 1))), ("most", 1))

    def test_the_order_of_worst_values(self):
        desk = Desk((("a", 2), ("b", 2), ("c", 2)), (
            ("all", (0, 1, 2), (((0, 0, 0), (0, 1, 0)), ((0, 1, 0), (1, 1, 0)), ((1, 0, 1), (0, 1, 1)))),
            ("copy", (1, 1), (((1, 0), (1, 1)),)), ("cc", (2,), (((0,), (1,)),)),
        ), ((1, 0, 1, 2), (1, 1, 0, 3)))
        self.same(value_of(desk, (), 0, (("wait", 0), ("wait", 2))), BAD)
        self.same(value_of(desk, ((0, 0, 1, 1),), 0, (("buy", 0), ("wait", 0), ("wait", 2))), BAD)
        offers = ((0, 0, 1, 1), (0, 1, 0, 1))
        self.same(value_of(desk, offers, 0, (("buy", 0), ("buy", 1), ("wait", 0), ("wait", 2))), GROWS)
        self.same(value_of(desk, offers, 0, (("buy", 0), ("buy", 1), ("wait", 0), ("wait", 1), ("wait", 2))), ("most", 4))

    def test_against_telling_again(self):
        rng = self.rng(2)
        seen = {}
        for _ in range(250):
            desk, offers, lot = random_guarded(rng)
            want = table_again(desk, offers, lot)
            self.same(guard_table(desk, offers, lot), tuple((sort, want[sort]) for sort in sorted(want)))
            for tool in range(len(desk.tools)):
                value = value_of(desk, offers, tool, lot)
                self.same(value, value_again(desk, offers, tool, lot))
                seen[value[0]] = seen.get(value[0], 0) + 1
                for promise in PROMISES:
                    self.same(serves(desk, offers, tool, lot, promise), is_kept(value, promise))
        self.assertGreater(min(seen.values()), 20)
        self.assertEqual(len(seen), 3)

    def test_more_guards_are_never_worse(self):
        rng = self.rng(3)
        rank = {"most": 0, "grows": 1, "bad": 2}
        for _ in range(60):
            desk, offers, lot = random_guarded(rng)
            tool = rng.randrange(len(desk.tools))
            less = tuple(guard for guard in lot if rng.random() < 0.5)
            one, two = value_of(desk, offers, tool, lot), value_of(desk, offers, tool, less)
            self.assertLessEqual((rank[one[0]],) + one[1:], (rank[two[0]],) + two[1:])

    def test_no_history_costs_more(self):
        rng = self.rng(4)
        met = 0
        for _ in range(400):
            desk, offers, lot = random_guarded(rng)
            tool = rng.randrange(len(desk.tools))
            value = value_of(desk, offers, tool, lot)
            if value[0] != "most":
                continue
            bought = with_bought(desk, offers, lot)
            waits = [number for word, number in lot if word == "wait"]
            for _ in range(10):
                things = random_things(rng, desk, 5)
                tries = [random_try(rng, desk, things) for _ in range(rng.randint(1, 14))]
                tries = [one for one in tries if one is not None]
                starts = [at for at, one in enumerate(tries) if one[0] == tool]
                if not starts:
                    continue
                at = rng.choice(starts)
                tries = tries[:at + 1] + [one for one in tries[at + 1:] if one[0] not in waits]
                prices = [least_price(bought, things[thing], x, y) for thing, x, y in apart(desk, (things, tries), (at,))]
                self.assertNotIn(None, prices)
                self.assertLessEqual(sum(prices), value[1])
                met += sum(prices) == value[1] and value[1] > 0
        self.assertGreater(met, 50)


class Promises(Case):
    def test_which_are_kept(self):
        kept = {
            BAD: (), GROWS: (RIGHT,), ("most", 0): PROMISES, ("most", 3): (RIGHT, BOUNDED, ("most", 3), ("most", 2 * 10 ** 9)),
            ("most", 4): (RIGHT, BOUNDED, ("most", 2 * 10 ** 9)), ("most", 2 * 10 ** 9 + 1): (RIGHT, BOUNDED),
        }
        for value, told in kept.items():
            for promise in PROMISES:
                self.same(is_kept(value, promise), promise in told)
                self.same(is_kept(value=value, promise=list(promise)), promise in told)

    def test_any_value(self):
        values = odd_values() + [["bad"], ["grows"], ["most", 1], ("most",), ("most", -1), ("most", True), ("most", False), ("most", "1"),
                                 ("most", None), ("most", 1, 1), ("most", (1,)), ("grows", 1), ("grow",), ("right",), ("bounded",),
                                 ("Grows",), (("grows",),), "grows", "most", ("most", MAIL), (None, 1), nested(12), ("bad", 0), ("max", 0)]
        for value in values:
            for promise in PROMISES:
                self.same(is_kept(value, promise), False)

    def test_serves(self):
        self.same(serves(MAIL, OFFER, 0, (), RIGHT), False)
        self.same(serves(MAIL, OFFER, 0, (("buy", 0),), ["right"]), True)
        self.same(serves(MAIL, OFFER, 0, (("buy", 0),), ["most", 2]), False)
        self.same(serves(MAIL, OFFER, 0, (("buy", 0),), ("most", 3)), True)
        self.same(serves(COPIES, (), 0, (("wait", 2),), RIGHT), True)
        self.same(serves(COPIES, (), 0, (("wait", 2),), BOUNDED), False)
        self.same(serves(desk=MAIL, offers=OFFER, tool=0, lot=(("wait", 1),), promise=("most", 1)), True)

    def test_another_promise(self):
        bad = odd_values() + ["right", ("Right",), ("bounded", 1), ("right", 0), ("most",), ("most", -1), ("most", True), ("most", False),
                              ("most", "1"), ("most", None), ("most", 1, 1), ("bad",), ("grows",), ("most", (1,)), nested(12), ("max", 1),
                              (("right",),), ("most", MAIL), (1, "most")]
        for value in bad:
            self.fails(InvalidPromise, -1, is_kept, ("most", 0), value)
            self.fails(InvalidPromise, -1, is_kept, None, value)
            self.fails(InvalidPromise, -1, serves, MAIL, OFFER, 0, (), value)


class Errors(Case):
    CALLS = ((with_bought, ()), (guard_table, ()))

    def wrong(self, error, at, offers, tool, lot, promise=RIGHT):
        if error is InvalidOffers:
            self.fails(error, at, all_guards, MAIL, offers)
        if error in (InvalidOffers, InvalidLot):
            self.fails(error, at, with_bought, MAIL, offers, lot)
            self.fails(error, at, guard_table, MAIL, offers, lot)
        self.fails(error, at, value_of, MAIL, offers, tool, lot)
        self.fails(error, at, serves, MAIL, offers, tool, lot, promise)

    def test_offers_come_first(self):
        for value in (None, 3, True, "ab", MAIL):
            self.wrong(InvalidOffers, -1, value, None, None, None)
        for value in (None, (0, 2, 1), (1, 0, 1, 1), (0, 3, 1, 1), (0, 2, 2, 1), (0, 2, 1, 0), (0, 2, 1, 1000001), (0, 2, 1, True),
                      (0, 1, 2, 1), (0, 0, 1, 1), "0211", MAIL):
            self.wrong(InvalidOffers, 1, ((0, 1, 2, 1), value, None), None, None, None)
            self.wrong(InvalidOffers, 1, [[0, 1, 2, 1], value], 9, (9,), 9)

    def test_then_tools(self):
        for value in odd_values() + [2, -1]:
            if type(value) is int and 0 <= value < 2:
                continue
            self.wrong(InvalidSize, "tool", OFFER, value, None, None)

    def test_then_lots_ahead_of_promises(self):
        for value in (None, 3, True, "ab", MAIL):
            self.wrong(InvalidLot, -1, OFFER, 0, value, None)
        for value in (None, 0, "ab", (), ("wait",), ("wait", 1, 1), ("wait", 2), ("wait", -1), ("wait", True), ("wait", "1"), ("Wait", 1),
                      ("buy", 0), ("buy", 1), ("wait", 0), (0, "wait"), (("wait",), 1), (None, 1), MAIL, ("wait", MAIL), "wait"):
            self.wrong(InvalidLot, 1, OFFER, 0, (("wait", 0), value, None), None)
            self.wrong(InvalidLot, 1, as_lists(OFFER), 0, [["wait", 0], value], None)
        self.wrong(InvalidLot, 0, OFFER, 0, (("buy", 1),))
        self.wrong(InvalidLot, 0, OFFER, 0, (("buy", -1),))
        self.wrong(InvalidLot, 0, OFFER, 0, (("buy", False),))
        self.wrong(InvalidLot, 0, (), 0, (("buy", 0),))
        self.wrong(InvalidLot, 1, OFFER, 0, (("buy", 0), ("buy", 0)))

    def test_any_value_and_spoilt_lots(self):
        rng = self.rng(5)
        values = odd_values() + [(value,) for value in odd_values()] + [(("wait", value),) for value in odd_values()]
        values += [spoilt(rng, tuple(guard for guard in all_guards(MAIL, OFFER) if rng.random() < 0.7)) for _ in range(1000)]
        for value in values:
            at = wrong_lot(MAIL, OFFER, value)
            if at is None:
                self.assertTrue(is_tuples(guard_table(MAIL, OFFER, value)))
            else:
                self.wrong(InvalidLot, at, OFFER, 0, value)

    def test_what_is_handed_in_stays(self):
        offers, lot, promise = as_lists(OFFER), [["buy", 0], ["wait", 1]], ["most", 3]
        before = MAIL.told
        for _ in range(2):
            all_guards(MAIL, offers)
            with_bought(MAIL, offers, lot)
            guard_table(MAIL, offers, lot)
            value_of(MAIL, offers, 0, lot)
            serves(MAIL, offers, 0, lot, promise)
            is_kept(("most", 3), promise)
        self.assertEqual((offers, lot, promise), (as_lists(OFFER), [["buy", 0], ["wait", 1]], ["most", 3]))
        self.assertIs(MAIL.told, before)
        self.same(value_of(COPY, (), 0, ()), BAD)


if __name__ == "__main__":
    unittest.main()
