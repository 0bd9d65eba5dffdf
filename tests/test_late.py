"""[34]: histories that show why a lot of guards does not serve."""

import collections
import unittest

from lateno.desks import Desk
from lateno.errors import InvalidLot, InvalidOffers, InvalidPromise, InvalidSize
from lateno.guards import serves, with_bought
from lateno.late import late_history
from lateno.worlds import need_history
from samples import COPY, MAIL, Case, as_lists, is_tuples, nested
from table_samples import PRICE, count_again
from test_guards import BOUNDED, COPIES, OFFER, RIGHT, random_guarded, value_again


def breaks_again(desk, offers, tool, lot, promise, found):
    """Whether what is found is a history as [34] tells."""
    if not is_tuples(found) or len(found) != 2 or need_history(desk, found[0]) != found[0]:
        return False
    history, at = found
    waits = [number for word, number in lot if word == "wait"]
    if history[1][at][0] != tool or any(one[0] in waits for one in history[1][at + 1:]):
        return False
    price = count_again(with_bought(desk, offers, lot), history, (at,), PRICE)
    return price is None or (promise != RIGHT and price > promise[1])


class Late(Case):
    def test_by_hand(self):
        found = late_history(MAIL, OFFER, 0, (), RIGHT)
        self.assertTrue(breaks_again(MAIL, OFFER, 0, (), RIGHT, found))
        self.same(found[0][1][found[1]:], ((0, (0,)), (1, (0,)), (0, (0,))))
        for lot in ((("buy", 0),), (("wait", 0),), (("wait", 1),)):
            self.same(late_history(MAIL, OFFER, 0, lot, RIGHT), None)
        self.same(late_history(desk=MAIL, offers=OFFER, tool=0, lot=(("buy", 0),), promise=("most", 3)), None)
        found = late_history(MAIL, as_lists(OFFER), 0, [["buy", 0]], ["most", 2])
        self.same((found[0][1][found[1]:], count_again(MAIL, found[0], (found[1],), PRICE)), (((0, (0,)), (1, (0,))), 3))
        self.assertTrue(breaks_again(COPIES, (), 0, (), ("most", 40), late_history(COPIES, (), 0, (), ("most", 40))))
        self.same(late_history(COPIES, (), 0, (("wait", 1), ("wait", 2)), ("most", 1)), None)
        self.same(late_history(COPY, (), 1, (("wait", 0), ("wait", 1)), RIGHT)[0][1][-1], (1, (0, 1)))

    def test_a_tool_that_waits_for_itself_still_begins(self):
        found = late_history(MAIL, (), 0, (("wait", 0), ("wait", 1)), ("most", 0))
        self.same(found[0][1][found[1]:], ((0, (0,)),))
        # what stands ready came by the tools that wait, ahead of the try
        desk = Desk((("a", 2), ("b", 2)), (("set", (0,), (((0,), (1,)),)), ("both", (0, 1), (((1, 1), (0, 1)),)),
                                           ("on", (1,), (((0,), (1,)),))), ((0, 1, 0, 1),))
        found = late_history(desk, (), 0, (("wait", 0), ("wait", 2)), ("most", 0))
        self.assertTrue(breaks_again(desk, (), 0, (("wait", 0), ("wait", 2)), ("most", 0), found))

    def test_against_telling_again(self):
        rng = self.rng(1)
        seen = collections.Counter()
        for _ in range(600):
            desk, offers, lot = random_guarded(rng)
            tool = rng.randrange(len(desk.tools))
            value = value_again(desk, offers, tool, lot)
            promises = [RIGHT, ("most", rng.randint(0, 3)), ("most", rng.randint(4, 40))]
            if value[0] == "most":
                promises += [("most", number) for number in (value[1] - 1, value[1]) if 0 <= number <= 40]
            for promise in promises:
                found = late_history(desk, offers, tool, lot, promise)
                kept = value[0] != "bad" if promise == RIGHT else value[0] == "most" and value[1] <= promise[1]
                self.same(found is None, kept)
                self.same(serves(desk, offers, tool, lot, promise), kept)
                if not kept:
                    self.assertTrue(breaks_again(desk, offers, tool, lot, promise, found))
                seen[(promise[0], value[0], kept)] += 1
        self.assertGreater(min(seen.values()), 5)
        self.assertEqual(len(seen), 7)


class Errors(Case):
    def test_each_ahead_of_the_next(self):
        for value in (None, 0, "ab", MAIL):
            self.fails(InvalidOffers, -1, late_history, MAIL, value, None, None, None)
            self.fails(InvalidLot, -1, late_history, MAIL, OFFER, 0, value, None)
        self.fails(InvalidOffers, 1, late_history, MAIL, OFFER + OFFER, None, None, None)
        for value in (2, -1, True, None, "sign", (0,)):
            self.fails(InvalidSize, "tool", late_history, MAIL, OFFER, value, None, None)
        for value in (("buy", 1), ("wait", 2), ("buy", True), ("keep", 0), None, "ab", ("buy", 0)):
            self.fails(InvalidLot, 1, late_history, MAIL, OFFER, 0, (("buy", 0), value), None)
        for value in (None, 0, "ab", (), ("right", 0), ("most",), ("most", -1), ("most", True), ("bad",), nested(12), ("bounded", 1)):
            self.fails(InvalidPromise, -1, late_history, MAIL, OFFER, 0, (), value)
        for value in (BOUNDED, list(BOUNDED), ("most", 41), ["most", 10 ** 9]):
            self.fails(InvalidSize, "promise", late_history, MAIL, OFFER, 0, (("buy", 0),), value)
            self.fails(InvalidSize, "promise", late_history, MAIL, OFFER, 0, (), value)
        self.same(late_history(MAIL, OFFER, 0, (("buy", 0),), ("most", 40)), None)


if __name__ == "__main__":
    unittest.main()
