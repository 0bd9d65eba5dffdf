"""[35], [36]: breaks and their stories, cuts, the table of least breaks."""

import collections
import itertools
import unittest

from lateno.breaks import break_story, breaks_table, cuts, is_break, story_holds
from lateno.desks import Desk, with_repairs
from lateno.errors import InvalidLot, InvalidOffers, InvalidPromise, InvalidSize, InvalidSort
from lateno.guards import all_guards
from lateno.pairs import least_price
from lateno.reach import sorts
from samples import COPY, MAIL, Case, as_lists, is_tuples, nested, no_bools, odd_values, spoilt
from table_samples import comes_again, given, lines_again, price_again
from test_guards import BOUNDED, COPIES, OFFER, RIGHT, lots_of, random_guarded, value_again
from test_reaching import hops_again, way_again

BUY, SIGN, SEND = ("buy", 0), ("wait", 0), ("wait", 1)
BAD_WAY = ("way", 0, 0, ((1, 0, (), 0), (0, 0, (), 0)))
PROMISES = (RIGHT, BOUNDED, ("most", 0), ("most", 2), ("most", 5))
PRICE = ("price",)


def rest_of(desk, offers, lot):
    return tuple(guard for guard in all_guards(desk, offers) if guard not in lot)


def keeps_again(value, promise):
    if promise == RIGHT:
        return value[0] != "bad"
    return value[0] == "most" and (promise == BOUNDED or value[1] <= promise[1])


def bought_desk(desk, offers, lot):
    return with_repairs(desk, [offer for number, offer in enumerate(offers) if ("buy", number) not in lot])


def choices_again(desk, bought, tools, lines, value):
    """For each sort its number, of any value as choices; None if it is none."""
    if type(value) is not tuple or not is_tuples(value) or not no_bools(value):
        return None
    told = {}
    for one in value:
        if type(one) is not tuple or len(one) != 2 or type(one[0]) is not tuple or len(one[0]) != 3 or one[0] not in lines:
            return None
        if one[1] is not None and one[1] not in [step for step, _, _ in lines[one[0]] if step[0] in tools]:
            return None
        told[one[0]] = one[1]
    if [one[0] for one in value] != sorted(told):
        return None

    def number_of(sort, ahead):
        if sort not in told or sort in ahead:
            return None
        if told[sort] is None:
            return price_again(bought, *sort)
        pairs = next(pairs for step, _, pairs in lines[sort] if step == told[sort])
        numbers = [number_of(pair, ahead + (sort,)) for pair in given(pairs)]
        return None if None in numbers else sum(numbers)
    numbers = {sort: number_of(sort, ()) for sort in told}
    return None if None in numbers.values() else numbers


def story_again(desk, offers, tool, lot, promise, story):
    """[35]'s three forms told again for any value."""
    if type(story) is not tuple or not story or type(story[0]) is not str:
        return False
    bought = bought_desk(desk, offers, lot)
    tools = [number for word, number in lot if word == "wait"]
    lines = lines_again(desk, PRICE)
    if story[0] == "way" and len(story) == 4:
        end = way_again(desk, lines, tool, story[1:])
        return end is not None and all(hop[0] in tools for hop in story[3]) and price_again(bought, *end) is None
    if story[0] == "ring" and len(story) == 5 and promise != RIGHT:
        sort = way_again(desk, lines, tool, story[1:4])
        if sort is None or not all(hop[0] in tools for hop in story[3]):
            return False
        if type(story[4]) is not tuple or not story[4] or hops_again(lines, sort, story[4]) != sort or not all(hop[0] in tools for hop in story[4]):
            return False
        beside = False
        for hop in story[4]:
            pairs = next(pairs for step, _, pairs in lines[sort] if step == hop[:3])
            beside = beside or len(given(pairs)) > 1
            sort = pairs[hop[3]]
        return beside
    if story[0] == "sum" and len(story) == 3 and promise[0] == "most":
        numbers = choices_again(desk, bought, tools, lines, story[2])
        if numbers is None or type(story[1]) is not int or not 0 <= story[1] < len(desk.tools[tool][2]):
            return False
        before, behind = desk.tools[tool][2][story[1]]
        roles = desk.tools[tool][1]
        if any(state not in comes_again(desk)[kind] for kind, state in zip(roles, before)):
            return False
        begun = given(zip(roles, behind, before))
        return all(pair in numbers for pair in begun) and sum(numbers[pair] for pair in begun) > promise[1]
    return False


def cuts_again(desk, offers, sort):
    guards = [("buy", number) for number in range(len(offers))]
    found = []
    for lot in lots_of(guards):
        if least_price(bought_desk(desk, offers, lot), *sort) is None:
            found.append(lot)
    return tuple(sorted(lot for lot in found if not any(set(other) < set(lot) for other in found)))


def table_again(desk, offers):
    """For each sort the least lots without which, begun with it alone, something can't be put right."""
    guards = all_guards(desk, offers)
    lines = lines_again(desk, PRICE)
    found = {sort: [] for sort in sorts(desk)}
    for lot in lots_of(guards):
        bought = bought_desk(desk, offers, lot)
        tools = [number for word, number in lot if word == "wait"]
        bad = {sort for sort in found if price_again(bought, *sort) is None}
        grown = True
        while grown:
            more = {sort for sort in found if any(step[0] in tools and bad & set(given(pairs)) for step, _, pairs in lines[sort])}
            grown = not more <= bad
            bad |= more
        for sort in bad:
            found[sort].append(lot)
    return tuple((sort, tuple(sorted(lot for lot in found[sort] if not any(set(other) < set(lot) for other in found[sort])))) for sort in sorted(found))


def random_broken(rng):
    """(desk, offers, tool, lot)."""
    desk, offers, lot = random_guarded(rng)
    return desk, offers, rng.randrange(len(desk.tools)), tuple(guard for guard in all_guards(desk, offers) if rng.random() < rng.choice([0.3, 0.7, 1]))


class ByHand(Case):
    def test_breaks(self):
        self.same(is_break(MAIL, OFFER, 0, (BUY, SIGN, SEND), RIGHT), True)
        for lot in lots_of((BUY, SIGN, SEND))[:-1]:
            self.same(is_break(MAIL, OFFER, 0, lot, RIGHT), False)
        self.same(is_break(desk=MAIL, offers=OFFER, tool=0, lot=(SIGN, SEND), promise=BOUNDED), False)
        self.same([is_break(MAIL, OFFER, 0, (SEND,), ("most", most)) for most in (2, 3)], [True, False])
        self.same([is_break(MAIL, as_lists(OFFER), 0, [], ["most", most]) for most in (0, 1)], [True, False])
        self.same([is_break(COPIES, (), 0, (("wait", 1),), promise) for promise in PROMISES], [False, True, True, True, True])

    def test_stories(self):
        lot = (BUY, SIGN, SEND)
        for promise in PROMISES:
            self.same(story_holds(MAIL, OFFER, 0, lot, promise, BAD_WAY), True)
            self.same(story_holds(MAIL, OFFER, 0, lot, promise, break_story(MAIL, OFFER, 0, lot, promise)), True)
            self.same(story_holds(MAIL, OFFER, 0, (SIGN, SEND), promise, BAD_WAY), False)
            self.same(story_holds(MAIL, OFFER, 0, (BUY, SEND), promise, BAD_WAY), False)
        self.same(break_story(MAIL, OFFER, 0, (SIGN, SEND), RIGHT), None)
        told = ("sum", 0, (((0, 1, 0), (1, 0, ())), ((0, 2, 0), None)))
        self.same(break_story(MAIL, OFFER, 0, (SEND,), ("most", 2)), told)
        self.same(story_holds(MAIL, OFFER, 0, (SEND,), ("most", 2), told), True)
        self.same(story_holds(MAIL, OFFER, 0, (SEND,), ("most", 3), told), False)
        self.same(story_holds(MAIL, OFFER, 0, (), ("most", 2), told), False)
        self.same(story_holds(MAIL, OFFER, 0, (SEND,), RIGHT, told), False)
        self.same(story_holds(MAIL, OFFER, 0, (SEND,), BOUNDED, told), False)
        self.same(story_holds(MAIL, OFFER, 0, (SEND,), ("most", 2), as_lists(told)), False)
        self.same(break_story(desk=MAIL, offers=OFFER, tool=0, lot=(), promise=("most", 0)), ("sum", 0, (((0, 1, 0), None),)))

    def test_rings(self):
        copied = (("wait", 1),)
        turn = (1, 0, (0,), 0)
        ring = ("ring", 0, 0, (), (turn,))
        for promise in PROMISES[1:]:
            self.same(story_holds(COPIES, (), 0, copied, promise, ring), True)
            self.same(story_holds(COPIES, (), 0, copied, promise, ("ring", 0, 0, (turn,), (turn, turn[:3] + (1,)))), True)
            self.same(story_holds(COPIES, (), 0, copied, promise, break_story(COPIES, (), 0, copied, promise)), True)
            self.same(story_holds(COPIES, (), 0, (), promise, ring), False)
        self.same(story_holds(COPIES, (), 0, copied, RIGHT, ring), False)
        self.same(break_story(COPIES, (), 0, copied, RIGHT), None)
        self.same(story_holds(COPIES, (), 0, copied, BOUNDED, ("ring", 0, 0, (), ())), False)
        self.same(story_holds(COPIES, (), 0, copied, BOUNDED, ("way", 0, 0, (), (turn,))), False)
        self.same(story_holds(COPIES, (), 0, copied, BOUNDED, ("ring", 0, 0, (), (turn[:3] + (2,),))), False)
        # a round on which nothing is given beside is none
        kinds, tools = MAIL.kinds, MAIL.tools[:1] + (("back", (0,), (((2,), (1,)),)), ("send", (0,), (((1,), (2,)),)))
        back = Desk(kinds, tools, ((0, 1, 0, 1), (0, 2, 0, 1), (0, 2, 1, 1)))
        self.same(story_holds(back, (), 0, (("wait", 1), ("wait", 2)), BOUNDED, ("ring", 0, 0, (), ((2, 0, (), 0), (1, 0, (), 0)))), False)
        self.same(break_story(back, (), 0, (("wait", 1), ("wait", 2)), BOUNDED), None)

    def test_sums_without_an_end(self):
        # each of two sorts comes to the other: a choice must stop somewhere
        kinds, tools = MAIL.kinds, MAIL.tools[:1] + (("back", (0,), (((2,), (1,)),)), ("send", (0,), (((1,), (2,)),)))
        back = Desk(kinds, tools, ((0, 1, 0, 1), (0, 2, 0, 3), (0, 2, 1, 1)))
        lot = (("wait", 1), ("wait", 2))
        right = ("sum", 0, (((0, 1, 0), (2, 0, ())), ((0, 2, 0), None)))
        self.same(story_holds(back, (), 0, lot, ("most", 1), right), True)
        round_about = ("sum", 0, (((0, 1, 0), (2, 0, ())), ((0, 2, 0), (1, 0, ()))))
        self.same(story_holds(back, (), 0, lot, ("most", 1), round_about), False)
        self.same(story_holds(back, (), 0, lot, ("most", 1), right[:2] + (right[2][:1],)), False)
        self.same(story_holds(back, (), 0, lot, ("most", 1), right[:2] + (right[2][1:],)), False)
        self.same(story_holds(back, (), 0, lot, ("most", 1), right[:2] + (right[2][::-1],)), False)
        self.same(story_holds(back, (), 0, lot, ("most", 1), right[:2] + (right[2] + right[2][1:],)), False)
        # one more choice that isn't come to: let, if it doesn't lead round to itself and can be put right
        self.same(story_holds(back, (), 0, lot, ("most", 1), right[:2] + (right[2] + (((0, 2, 1), None),),)), True)
        self.same(story_holds(back, (), 0, lot, ("most", 1), right[:2] + ((((0, 0, 1), None),) + right[2],)), False)
        self.same(story_holds(back, (), 0, lot, ("most", 1), right[:2] + (right[2] + (((0, 2, 1), (0, 0, ())),),)), False)

    def test_the_dearest_choice(self):
        # of two steps the second is the dearer one; and what is dear stands three steps behind
        kinds = (("mail", 4),)
        sign, send, burn = ("sign", (0,), (((0,), (1,)),)), ("send", (0,), (((1,), (2,)),)), ("burn", (0,), (((1,), (3,)),))
        desk = Desk(kinds, (sign, send, burn), ((0, 1, 0, 1), (0, 2, 0, 2), (0, 3, 0, 5)))
        lot = (SEND, ("wait", 2))
        told = ("sum", 0, (((0, 1, 0), (2, 0, ())), ((0, 3, 0), None)))
        self.same(break_story(desk, (), 0, lot, ("most", 4)), told)
        self.same(story_holds(desk, (), 0, lot, ("most", 4), told), True)
        self.same(story_holds(desk, (), 0, lot, ("most", 1), ("sum", 0, (((0, 1, 0), (1, 0, ())), ((0, 2, 0), None)))), True)
        chain = Desk(kinds, (sign, send, ("file", (0,), (((2,), (3,)),))), ((0, 1, 0, 1), (0, 2, 0, 2), (0, 3, 0, 9)))
        told = ("sum", 0, (((0, 1, 0), (1, 0, ())), ((0, 2, 0), (2, 0, ())), ((0, 3, 0), None)))
        self.same(break_story(chain, (), 0, lot, ("most", 8)), told)
        self.same(story_holds(chain, (), 0, lot, ("most", 8), told), True)
        self.same(story_holds(chain, (), 0, lot, ("most", 9), told), False)
        # lists do not stand for tuples within a story
        for step in ([1, 0, ()], (1, 0, []), (True, 0, ()), (1, False, ())):
            self.same(story_holds(chain, (), 0, lot, ("most", 8), told[:2] + ((((0, 1, 0), step),) + told[2][1:],)), False)
        for sort in ([0, 1, 0], (False, 1, 0), (0, True, 0)):
            self.same(story_holds(chain, (), 0, lot, ("most", 8), told[:2] + (((sort, (1, 0, ())),) + told[2][1:],)), False)

    def test_cuts(self):
        offers = ((0, 2, 1, 2),)
        self.same(cuts(MAIL, offers, (0, 2, 1)), ((BUY,),))
        self.same(cuts(MAIL, offers, (0, 1, 0)), ())
        self.same(cuts(desk=MAIL, offers=offers, sort=[0, 0, 1]), ((),))
        # by one repair, or by two others
        more = ((0, 0, 1, 1), (0, 0, 2, 1), (0, 2, 1, 1), (0, 1, 2, 9))
        self.same(cuts(Desk(MAIL.kinds, MAIL.tools, ()), tuple(sorted(more)), (0, 0, 1)), ((("buy", 0), ("buy", 1)), (("buy", 0), ("buy", 3))))
        self.same(cuts(MAIL, tuple(sorted(more)), (0, 2, 1)), ((("buy", 0), ("buy", 3)),))
        # an offer of what the desk has is not needed
        self.same(cuts(MAIL, ((0, 2, 0, 1),), (0, 2, 0)), ())

    def test_the_table(self):
        self.same(breaks_table(MAIL, OFFER), (
            ((0, 0, 1), ((),)), ((0, 0, 2), ((),)), ((0, 1, 0), ((BUY, SIGN, SEND),)), ((0, 1, 2), ((),)),
            ((0, 2, 0), ((BUY, SIGN),)), ((0, 2, 1), ((BUY,),)),
        ))
        self.same(breaks_table(desk=Desk((("a", 1),), (), ()), offers=()), ())


class Told(Case):
    def test_breaks_and_stories(self):
        rng = self.rng(1)
        seen = collections.Counter()
        for _ in range(500):
            desk, offers, tool, lot = random_broken(rng)
            value = value_again(desk, offers, tool, rest_of(desk, offers, lot))
            promises = list(PROMISES[:3]) + [("most", rng.randint(1, 12))]
            if value[0] == "most" and value[1]:
                promises += [("most", value[1] - 1), ("most", value[1])]
            for promise in promises:
                want = not keeps_again(value, promise)
                self.same(is_break(desk, offers, tool, lot, promise), want)
                story = break_story(desk, offers, tool, lot, promise)
                self.same(story is not None, want)
                if want:
                    self.assertTrue(is_tuples(story))
                    self.same(story_again(desk, offers, tool, lot, promise, story), True)
                    self.same(story_holds(desk, offers, tool, lot, promise, story), True)
                    seen[(promise[0], story[0])] += 1
        self.assertEqual(len(seen), 6)
        self.assertGreater(min(seen.values()), 10)

    def test_spoilt_stories(self):
        rng = self.rng(2)
        seen = collections.Counter()
        for _ in range(1500):
            desk, offers, tool, lot = random_broken(rng)
            promise = rng.choice(PROMISES)
            story = break_story(desk, offers, tool, lot, promise)
            if story is None:
                continue
            lots = [lot, lot[1:], lot[:-1], tuple(guard for guard in lot if rng.random() < 0.8)]
            values = [(lot, promise, spoilt(rng, story)) for _ in range(6)] + [(lot, promise, as_lists(story))]
            values += [(rng.choice(lots), rng.choice(PROMISES), story) for _ in range(4)]
            values += [(lot, promise, story[:-1]), (lot, promise, story[:-1] + (story[-1][::-1],)), (lot, promise, story[:-1] + (story[-1] * 2,)),
                       (lot, promise, story[:-1] + (story[-1][1:],)), (lot, promise, story[:-1] + (story[-1][:-1],))]
            if story[0] == "sum":
                # choices put in, and others chosen
                some = rng.choice(sorts(desk))
                steps = [step for step, _, _ in lines_again(desk, PRICE)[some]]
                told = dict(story[2])
                told[some] = rng.choice(steps + [None])
                values.append((lot, promise, story[:2] + (tuple(sorted(told.items(), key=lambda one: one[0])),)))
            for other, other_promise, value in values:
                want = story_again(desk, offers, tool, other, other_promise, value)
                self.same(story_holds(desk, offers, tool, other, other_promise, value), want)
                seen[(story[0], want)] += 1
        self.assertGreater(min(seen[key] for key in itertools.product(("way", "ring", "sum"), (True, False))), 40)

    def test_a_break_is_one_exactly_if_it_meets_all_that_serve(self):
        rng = self.rng(3)
        for _ in range(60):
            desk, offers, tool, _ = random_broken(rng)
            promise = rng.choice(PROMISES)
            guards = all_guards(desk, offers)
            breaks = {lot for lot in lots_of(guards) if is_break(desk, offers, tool, lot, promise)}
            for lot in lots_of(guards):
                meets = all(set(lot) & set(other) for other in breaks)
                self.same(keeps_again(value_again(desk, offers, tool, lot), promise), meets)

    def test_cuts(self):
        rng = self.rng(4)
        seen = collections.Counter()
        for _ in range(300):
            desk, offers, _ = random_guarded(rng)
            ways = [(kind, x, y) for kind, (_, many) in enumerate(desk.kinds) for x in range(many) for y in range(many) if x != y]
            some = sorted(rng.sample(ways, rng.randint(0, min(7, len(ways)))))
            offers = tuple(way + (rng.randint(1, 4),) for way in some)
            desk = Desk(desk.kinds, desk.tools, [one for one in desk.repairs if rng.random() < 0.5])
            for sort in sorts(desk):
                found = cuts(desk, offers, sort)
                self.same(found, cuts_again(desk, offers, sort))
                seen[(len(found), max([len(lot) for lot in found] + [0]))] += 1
        self.assertGreater(len(seen), 6)

    def test_tables(self):
        rng = self.rng(5)
        most = 0
        for _ in range(60):
            desk, offers, _ = random_guarded(rng)
            found = breaks_table(desk, offers)
            self.same(found, table_again(desk, offers))
            most = max([most] + [len(lots) for _, lots in found])
        self.assertGreater(most, 1)


class Errors(Case):
    def test_each_ahead_of_the_next(self):
        calls = ((is_break, ()), (break_story, ()), (story_holds, (None,)))
        for value in (None, 0, "ab", MAIL):
            self.fails(InvalidOffers, -1, cuts, MAIL, value, None)
            self.fails(InvalidOffers, -1, breaks_table, MAIL, value)
            for call, rest in calls:
                self.fails(InvalidOffers, -1, call, MAIL, value, None, None, None, *rest)
                self.fails(InvalidLot, -1, call, MAIL, OFFER, 0, value, None, *rest)
        for call, rest in calls:
            self.fails(InvalidOffers, 1, call, MAIL, OFFER + OFFER, None, None, None, *rest)
            for value in (2, -1, True, None, "sign", (0,)):
                self.fails(InvalidSize, "tool", call, MAIL, OFFER, value, None, None, *rest)
            for value in (("buy", 1), ("wait", 2), ("buy", True), ("keep", 0), None, "ab", ("buy", 0), ("wait", 0, 0)):
                self.fails(InvalidLot, 1, call, MAIL, OFFER, 0, (("buy", 0), value), None, *rest)
            for value in (None, 0, "ab", (), ("right", 0), ("most",), ("most", -1), ("most", True), ("bad",), nested(12)):
                self.fails(InvalidPromise, -1, call, MAIL, OFFER, 0, (), value, *rest)
        for value in (None, 0, "abc", (), (0, 0), (0, 0, 0), (0, 0, 3), (1, 0, 1), (0, True, 0), nested(12), MAIL):
            self.fails(InvalidSort, -1, cuts, MAIL, OFFER, value)
        # a state that doesn't come
        self.fails(InvalidSort, -1, cuts, Desk(MAIL.kinds, MAIL.tools[:1], ()), (), (0, 2, 0))
        self.same(is_break(COPY, (), 0, (), RIGHT), True)

    def test_any_story(self):
        for value in odd_values() + [("way",), ("way", 0, 0, None), ("ring", 0, 0, ()), ("sum", 0, None), ("sum", 0, ()), ("sum", None, ()),
                                     (None, 0, 0, ()), ("way", 0, 0, (), ()), ("sum", 0, (), ())]:
            for promise in PROMISES:
                self.same(story_holds(MAIL, OFFER, 0, (BUY, SIGN, SEND), promise, value), False)
                self.same(story_holds(COPY, (), 0, (SIGN, SEND), promise, value), False)
        self.same(story_holds(COPY, (), 0, (), RIGHT, ("way", 0, 0, ())), True)
        self.same(story_holds(COPY, (), 0, (), RIGHT, ("way", 0, False, ())), False)


if __name__ == "__main__":
    unittest.main()
