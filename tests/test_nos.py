"""[19], [20]: groups of Nos, rows of Nos, what a history may still come to."""

import unittest

from lateno.counts import counted
from lateno.desks import Desk
from lateno.errors import InvalidHistory, InvalidLot, InvalidNumber, InvalidSize, InvalidStruck
from lateno.nos import group_reached, group_worst, paid, still
from lateno.worlds import need_history
from samples import COPY, MAIL, Case, as_lists, is_tuples, odd_values, random_history, random_try, spoilt
from table_samples import BOUGHT, COPIED, PRICE, comes_again, count_again, numbers_for, play, price_again, random_counting_desk
from table_samples import table_again, worst_again, wrong_number, wrong_numbers

HISTORY = ((0,), ((0, (0,)), (1, (0,)), (0, (0,))))
BOTH = ("otherwise", (0, 1))


def group_again(desk, tools, many, number):
    worsts = [worst_again(desk, tool, number) for tool in tools]
    if many == 0:
        return 0
    return None if None in worsts else many * max(worsts)


def can_come(desk, tool):
    told = comes_again(desk)
    _, roles, rows = desk.tools[tool]
    return any(all(state in told[kind] for kind, state in zip(roles, before)) for before, _ in rows)


def world_again(desk, history, left_out):
    world = [0] * len(history[0])
    for at, (tool, members) in enumerate(history[1]):
        if at not in left_out:
            for member, state in zip(members, play(desk, tool, [world[one] for one in members])[0]):
                world[member] = state
    return world


def paid_again(desk, history, order):
    found = []
    for at in range(len(order)):
        here, there = world_again(desk, history, order[:at]), world_again(desk, history, order[:at + 1])
        prices = [price_again(desk, kind, x, y) for kind, x, y in zip(history[0], here, there)]
        found.append(None if None in prices else sum(prices))
    return tuple(found)


def still_again(desk, history, struck, number):
    told = table_again(desk, number)
    world, twin = world_again(desk, history, ()), world_again(desk, history, struck)
    rest = [told[(kind, x, y)] for kind, x, y in zip(history[0], world, twin) if x != y]
    if None in rest:
        return None
    return sum(rest) + (count_again(desk, history, struck, number) if number[0] in ("touched", "otherwise") else 0)


def wrong_tools(desk, value):
    """Told again: the place for which [19] refuses any value as a lot of tools, None if it is right."""
    if type(value) not in (list, tuple) or not value:
        return -1
    for at, one in enumerate(value):
        if type(one) is not int or not 0 <= one < len(desk.tools) or any(other >= one for other in value[:at]):
            return at
    return None


class Groups(Case):
    def test_by_hand(self):
        self.same(group_worst(BOUGHT, (0,), 3, PRICE), 9)
        self.same(group_worst(BOUGHT, (0, 1), 100 // 3, PRICE), 99)
        self.same(group_worst(MAIL, [1, ], 0, ["price"]), 0)
        self.same(group_worst(MAIL, (0,), 1, PRICE), None)
        self.same(group_worst(MAIL, (0,), 0, PRICE), 0)
        self.same(group_worst(desk=MAIL, tools=(0, 1), many=40, number=BOTH), 120)
        self.same(group_worst(MAIL, (1,), 2, BOTH), 2)
        self.same(group_worst(COPIED, (0, 1), 2, ("touched", (0,))), None)
        self.same(group_reached(BOUGHT, (0,), 3, PRICE, 10), None)
        self.same(group_reached(BOUGHT, (0,), 0, PRICE, 0), (((), ()), ()))
        self.same(group_reached(BOUGHT, (0,), 0, PRICE, 1), None)
        self.same(group_reached(MAIL, (0,), 0, PRICE, 1), None)
        history, struck = group_reached(BOUGHT, (0,), 3, PRICE, 9)
        self.same((len(struck), counted(BOUGHT, history, struck, PRICE)), (3, 9))

    def test_a_tool_without_a_row_that_can_come(self):
        desk = Desk((("a", 3),), (("far", (0,), (((2,), (1,)),)), ("no", (0,), ()), ("set", (0,), (((0,), (1,)),))), ())
        for tools in ((0,), (1,), (0, 1)):
            for many in (1, 2, 4):
                self.same(group_worst(desk, tools, many, PRICE), 0)
                self.same(group_reached(desk, tools, many, PRICE, 0), None)
            self.same(group_reached(desk, tools, 0, PRICE, 0), (((), ()), ()))
        history, struck = group_reached(desk, (0, 1, 2), 2, PRICE, 40)
        self.same([history[1][number][0] for number in struck], [2, 2])
        self.same(counted(desk, history, struck, PRICE), None)

    def test_against_telling_again(self):
        rng = self.rng(1)
        seen = {}
        for _ in range(500):
            desk = random_counting_desk(rng)
            tools = tuple(tool for tool in range(len(desk.tools)) if rng.random() < 0.5) or (0,)
            many = rng.choice([0, 1, 1, 2, 3, 4])
            for number in numbers_for(rng, desk):
                worst = group_again(desk, tools, many, number)
                self.same(group_worst(desk, tools, many, number), worst)
                leasts = [0, 1, 9] if worst is None else [0, min(worst, 9), min(worst, 40), min(worst + 1, 40)]
                for least in leasts:
                    found = group_reached(desk, tools, many, number, least)
                    none = (worst is not None and worst < least) or (many > 0 and not any(can_come(desk, tool) for tool in tools))
                    self.same(found is None, none)
                    seen[(number[0], none, many > 1)] = seen.get((number[0], none, many > 1), 0) + 1
                    if not none:
                        self.check(desk, tools, many, number, least, found)
        self.assertEqual(len(seen), 16)

    def check(self, desk, tools, many, number, least, found):
        self.assertTrue(is_tuples(found))
        history, struck = found
        self.same(need_history(desk, history), history)
        self.assertEqual(len(struck), many)
        self.assertEqual(list(struck), sorted(set(struck)))
        self.assertTrue(all(history[1][one][0] in tools for one in struck))
        count = count_again(desk, history, struck, number)
        self.assertTrue(count is None or count >= least)

    def test_no_history_counts_more(self):
        rng = self.rng(2)
        tight = 0
        for _ in range(2500):
            desk = random_counting_desk(rng)
            history = random_history(rng, desk, 3, 4)
            struck = tuple(number for number in range(len(history[1])) if rng.random() < 0.3)
            tools = tuple(sorted({history[1][one][0] for one in struck}))
            if not struck:
                continue
            for number in numbers_for(rng, desk):
                worst = group_worst(desk, tools, len(struck), number)
                count = count_again(desk, history, struck, number)
                self.assertTrue(worst is None or (count is not None and count <= worst))
                tight += worst is not None and worst > 0 and count == worst
        self.assertGreater(tight, 30)


class Rows(Case):
    def test_by_hand(self):
        self.same(paid(MAIL, HISTORY, (0,)), (None,))
        self.same(paid(MAIL, HISTORY, (1, 0, 2)), (None, 0, 1))
        self.same(paid(BOUGHT, HISTORY, (1, 0, 2)), (2, 0, 1))
        self.same(paid(BOUGHT, HISTORY, (1, 2, 0)), (2, 0, 1))
        self.same(paid(BOUGHT, as_lists(HISTORY), [0, 2]), (2, 1))
        self.same(paid(desk=BOUGHT, history=HISTORY, order=()), ())
        self.same(paid(MAIL, ((), ()), []), ())

    def test_against_telling_again(self):
        rng = self.rng(3)
        seen = {None: 0, 0: 0, 1: 0}
        for _ in range(1200):
            desk = random_counting_desk(rng)
            history = random_history(rng, desk, 8, 18)
            order = rng.sample(range(len(history[1])), rng.randint(0, min(5, len(history[1]))))
            found = paid(desk, history, order)
            self.same(found, paid_again(desk, history, order))
            for price in found:
                seen[price and min(price, 1)] += 1
            if None not in found:
                # the lot at once costs at most the sum
                self.assertLessEqual(counted(desk, history, sorted(order), PRICE), sum(found))
        self.assertGreater(min(seen.values()), 50)


class Still(Case):
    def test_by_hand(self):
        short = (HISTORY[0], HISTORY[1][:1])
        self.same(still(BOUGHT, short, (0,), PRICE), 3)
        self.same(still(BOUGHT, (HISTORY[0], HISTORY[1][:2]), (0,), PRICE), 3)
        self.same(still(BOUGHT, HISTORY, (0,), PRICE), 2)
        self.same(still(MAIL, short, (0,), PRICE), None)
        self.same(still(MAIL, short, (), PRICE), 0)
        self.same(still(MAIL, short, (0,), BOTH), 3)
        self.same(still(MAIL, HISTORY, [0], ["otherwise", [0, 1]]), 2 + 1)
        self.same(still(COPY, ((0,), ((0, (0,)),)), (0,), ("touched", (0,))), None)
        self.same(still(desk=COPY, history=((0,), ((0, (0,)),)), struck=(), number=("touched", (0,))), 0)
        copied = ((0, 0), ((0, (0,)), (1, (0, 1)), (0, (0,))))
        self.same(still(COPY, copied, (0,), ("touched", ())), 0)

    def test_what_was_touched_counts_on(self):
        # b came apart, and is equal again: it was touched, though nothing is apart now
        desk = Desk((("a", 2), ("b", 2)), (
            ("set", (0,), (((0,), (1,)),)), ("both", (0, 1), (((1, 0), (1, 1)),)), ("off", (0,), (((1,), (0,)),)),
            ("clear", (1,), (((1,), (0,)),)),
        ), ())
        told = ((0, 1), ((0, (0,)), (1, (0, 1)), (2, (0,)), (3, (1,))))
        self.same(still(desk, told, (0,), ("touched", (0, 1))), 1)
        self.same(still(desk, told, (0,), ("apart", (0, 1))), 0)
        self.same(still(desk, told, (0,), ("otherwise", (0, 1, 2, 3))), 3)
        self.same(still(desk, told, (0,), PRICE), 0)

    def test_against_telling_again(self):
        rng = self.rng(4)
        seen = {}
        for _ in range(800):
            desk = random_counting_desk(rng)
            history = random_history(rng, desk, 8, 18)
            struck = tuple(number for number in range(len(history[1])) if rng.random() < 0.3)
            for number in numbers_for(rng, desk):
                want = still_again(desk, history, struck, number)
                self.same(still(desk, history, struck, number), want)
                seen[(number[0], want and min(want, 1))] = seen.get((number[0], want and min(want, 1)), 0) + 1
        self.assertEqual(len(seen), 12)
        self.assertGreater(min(seen.values()), 1)

    def test_nothing_behind_counts_more(self):
        rng = self.rng(5)
        tight = 0
        for _ in range(1500):
            desk = random_counting_desk(rng)
            history = random_history(rng, desk, 5, 8)
            struck = tuple(number for number in range(len(history[1])) if rng.random() < 0.3)
            things = history[0] + tuple(rng.randrange(len(desk.kinds)) for _ in range(3))
            more = [random_try(rng, desk, things) for _ in range(rng.randint(0, 10))]
            longer = (things, history[1] + tuple(one for one in more if one is not None))
            for number in numbers_for(rng, desk):
                worst = still(desk, history, struck, number)
                count = count_again(desk, longer, struck, number)
                self.assertTrue(worst is None or (count is not None and count <= worst))
                tight += worst is not None and worst > 0 and count == worst
        self.assertGreater(tight, 30)


class Errors(Case):
    def test_tools_many_numbers_least(self):
        rng = self.rng(6)
        for value in odd_values() + [spoilt(rng, (0, 1)) for _ in range(200)]:
            at = wrong_tools(MAIL, value)
            if at is None:
                self.same(group_worst(MAIL, value, 0, PRICE), 0)
            else:
                self.fails(InvalidLot, at, group_worst, MAIL, value, None, None)
                self.fails(InvalidLot, at, group_reached, MAIL, value, None, None, None)
        for value in (41, 99, -1, True, None, "1", (1,), 10 ** 30):
            self.fails(InvalidSize, "many", group_worst, MAIL, (0,), value, None)
            self.fails(InvalidSize, "many", group_reached, MAIL, (0,), value, None, None)
            self.fails(InvalidSize, "least", group_reached, MAIL, (0,), 0, PRICE, value)
            self.fails(InvalidSize, "least", group_reached, MAIL, (0,), 1, PRICE, value)
        for value in wrong_numbers(rng, spoilt, odd_values):
            at = wrong_number(MAIL, value)
            if at is not None:
                self.fails(InvalidNumber, at, group_worst, MAIL, (0,), 0, value)
                self.fails(InvalidNumber, at, group_reached, MAIL, (0,), 40, value, None)
        self.same(group_reached(MAIL, (0,), 40, PRICE, 40) is None, False)

    def test_histories_struck_tries(self):
        for value in (None, 0, "ab", (), ((0,),), ((1,), ()), MAIL):
            self.fails(InvalidHistory, -1, paid, MAIL, value, None)
            self.fails(InvalidHistory, -1, still, MAIL, value, None, None)
        wrong = ((0,), ((0, (0,)), (0, (1,))))
        self.fails(InvalidHistory, 1, paid, MAIL, wrong, None)
        self.fails(InvalidHistory, 1, still, MAIL, wrong, None, None)
        for value in (None, 0, "ab", MAIL, True):
            self.fails(InvalidStruck, -1, paid, MAIL, HISTORY, value)
            self.fails(InvalidStruck, -1, still, MAIL, HISTORY, value, None)
        for value in (3, -1, True, None, "1", (1,), 2):
            self.fails(InvalidStruck, 1, paid, MAIL, HISTORY, (2, value))
            self.fails(InvalidStruck, 1, still, MAIL, HISTORY, (2, value), None)
        self.fails(InvalidStruck, 2, paid, MAIL, HISTORY, (2, 0, 2, 9))
        self.fails(InvalidStruck, 1, still, MAIL, HISTORY, (2, 0, 2, 9), None)
        rng = self.rng(7)
        for value in wrong_numbers(rng, spoilt, odd_values):
            at = wrong_number(MAIL, value)
            if at is not None:
                self.fails(InvalidNumber, at, still, MAIL, HISTORY, (), value)


if __name__ == "__main__":
    unittest.main()
