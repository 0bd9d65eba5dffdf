"""[16]: what is counted, bases, tables, tables that hold, worsts."""

import unittest

from lateno.desks import Desk
from lateno.errors import InvalidNumber, InvalidSize, InvalidSort
from lateno.reach import sorts
from lateno.tables import base, table, table_holds, worst_of
from samples import COPY, LOCK, MAIL, Case, as_lists, is_tuples, odd_values, random_history, random_things, random_try, spoilt
from table_samples import BOUGHT, COPIED, PRICE, base_again, count_again, given, lines_again, numbers_for, random_counting_desk
from table_samples import table_again, worst_again, wrong_number, wrong_numbers

OTHERWISE = ("otherwise", (0, 1))


def holds_again(desk, number, value):
    """[16] told again for any value."""
    lines = lines_again(desk, number)
    order = sorted(lines)
    if type(value) is not tuple or len(value) != len(order):
        return False
    told = {}
    for sort, row in zip(order, value):
        if type(row) is not tuple or len(row) != 2 or repr(row[0]) != repr(sort):
            return False
        if row[1] is not None and (type(row[1]) is not int or row[1] < 0):
            return False
        told[sort] = float("inf") if row[1] is None else row[1]
    for sort in order:
        first = base_again(desk, number, sort)
        if told[sort] < (float("inf") if first is None else first):
            return False
        if any(told[sort] < gain + sum(told[pair] for pair in given(pairs)) for _, gain, pairs in lines[sort]):
            return False
    return True


class ByHand(Case):
    def test_the_mail_desk(self):
        self.same(table(MAIL, PRICE), tuple((sort, None) for sort in sorts(MAIL)))
        self.same(worst_of(MAIL, 0, PRICE), None)
        self.same(worst_of(MAIL, 1, PRICE), None)

    def test_with_a_repair_bought(self):
        told = dict(table(BOUGHT, PRICE))
        self.same([told[(0, 2, 1)], told[(0, 2, 0)], told[(0, 1, 0)]], [2, 3, 3])
        self.same([told[(0, 0, 1)], told[(0, 0, 2)], told[(0, 1, 2)]], [None, None, None])
        self.same(worst_of(BOUGHT, 0, PRICE), 3)
        self.same(worst_of(desk=BOUGHT, tool=1, number=["price"]), 2)

    def test_otherwise(self):
        told = dict(table(MAIL, OTHERWISE))
        self.same([told[(0, 2, 1)], told[(0, 2, 0)], told[(0, 1, 0)]], [1, 2, 3])
        self.same(worst_of(MAIL, 0, OTHERWISE), 3)
        self.same(worst_of(MAIL, 0, ("otherwise", ())), 0)
        self.same(worst_of(MAIL, 0, ("otherwise", (0,))), 1)
        self.same(worst_of(MAIL, 0, ("otherwise", [1])), 2)

    def test_copies_are_a_ring(self):
        self.same(dict(table(COPIED, PRICE))[(0, 1, 0)], None)
        self.same(worst_of(COPIED, 0, PRICE), None)
        self.same(worst_of(COPIED, 0, ("apart", (0,))), None)
        self.same(worst_of(COPIED, 0, ("touched", (0,))), None)
        self.same(worst_of(COPIED, 0, ("apart", ())), 0)
        # each draft that is signed in one and was a copy in the other, or the other way
        self.same(worst_of(COPIED, 0, ("otherwise", (1,))), None)

    def test_apart_and_touched(self):
        self.same(table(MAIL, ("apart", (0,))), tuple((sort, 1) for sort in sorts(MAIL)))
        self.same(table(MAIL, ("touched", (0,))), tuple((sort, 0) for sort in sorts(MAIL)))
        # marked here, set and marked there on another b: two b come apart, and stay so
        desk = Desk((("a", 3), ("b", 2)), (
            ("set", (0,), (((0,), (1,)),)), ("mark", (0, 1), (((1, 0), (2, 1)), ((1, 1), (2, 1)))),
        ), ((0, 0, 1, 2), (0, 1, 0, 3), (0, 2, 0, 1), (1, 0, 1, 4), (1, 1, 0, 5)))
        self.same(dict(table(desk, ("touched", (1,))))[(0, 1, 0)], 2)
        self.same(dict(table(desk, ("touched", (0,))))[(0, 1, 0)], 0)
        self.same(dict(table(desk, ("touched", (0, 1))))[(0, 2, 1)], 1)
        self.same(dict(table(desk, ("touched", (0, 1))))[(1, 1, 0)], 0)
        self.same(dict(table(desk, ("apart", (1,))))[(0, 1, 0)], 2)
        self.same(dict(table(desk, ("apart", (0, 1))))[(0, 1, 0)], 2)
        self.same(worst_of(desk, 0, ("touched", (0, 1))), 2)
        self.same(worst_of(desk, 0, ("otherwise", (1,))), 2)
        self.same(worst_of(desk, 0, ("otherwise", (0, 1))), 3)

    def test_rings_of_which_nothing_counts(self):
        # a and b turn with each other, but of b nothing is counted
        desk = Desk((("a", 2), ("b", 2)), (
            ("set", (0,), (((0,), (1,)), ((1,), (0,)))), ("mark", (0, 1), (((1, 0), (1, 1)), ((1, 1), (1, 0)))),
        ), ())
        self.same(dict(table(desk, ("apart", (0,))))[(0, 1, 0)], 1)
        self.same(dict(table(desk, ("apart", (1,))))[(0, 1, 0)], None)
        self.same(dict(table(desk, ("otherwise", (0,))))[(0, 1, 0)], 0)
        self.same(dict(table(desk, ("otherwise", (1,))))[(0, 1, 0)], None)
        self.same(dict(table(desk, ("otherwise", (1,))))[(1, 1, 0)], 0)
        self.same(dict(table(desk, ("touched", (1,))))[(0, 1, 0)], None)

    def test_no_beginning(self):
        desk = Desk((("a", 3),), (("none", (0,), ()), ("far", (0,), (((2,), (1,)),)), ("same", (0,), (((0,), (0,)),))), ())
        for tool in range(3):
            self.same(worst_of(desk, tool, PRICE), 0)
        self.same(table(desk, PRICE), ())
        self.same(table_holds(desk, PRICE, ()), True)
        self.same(table_holds(desk, PRICE, []), False)

    def test_bases(self):
        self.same(base(BOUGHT, PRICE, (0, 2, 0)), 3)
        self.same(base(BOUGHT, PRICE, [0, 2, 1]), 2)
        self.same(base(BOUGHT, ["price"], (0, 0, 1)), None)
        self.same(base(MAIL, ("apart", (0,)), (0, 0, 1)), 1)
        self.same(base(MAIL, ("apart", []), (0, 0, 1)), 0)
        self.same(base(MAIL, ("touched", (0,)), (0, 0, 1)), 0)
        self.same(base(desk=MAIL, number=OTHERWISE, sort=(0, 0, 1)), 0)


class Again(Case):
    def test_against_telling_again(self):
        rng = self.rng(1)
        seen = {}
        for _ in range(150):
            desk = random_counting_desk(rng)
            for number in numbers_for(rng, desk):
                want = table_again(desk, number)
                self.same(table(desk, number), tuple((sort, want[sort]) for sort in sorted(want)))
                for sort in want:
                    self.same(base(desk, number, sort), base_again(desk, number, sort))
                    key = (number[0], want[sort] is None)
                    seen[key] = seen.get(key, 0) + 1
                for tool in range(len(desk.tools)):
                    self.same(worst_of(desk, tool, as_lists(number)), worst_again(desk, tool, number))
        self.assertEqual(len(seen), 8)
        self.assertGreater(min(seen.values()), 20)

    def test_no_history_counts_more(self):
        rng = self.rng(2)
        met = {}
        for _ in range(400):
            desk = random_counting_desk(rng)
            tool = rng.randrange(len(desk.tools))
            for number in numbers_for(rng, desk):
                worst = worst_of(desk, tool, number)
                if worst is None:
                    continue
                for _ in range(8):
                    things = random_things(rng, desk, rng.randint(1, 5))
                    tries = [random_try(rng, desk, things) for _ in range(rng.randint(1, 14))]
                    tries = tuple(one for one in tries if one is not None)
                    starts = [at for at, one in enumerate(tries) if one[0] == tool]
                    if starts:
                        found = count_again(desk, (things, tries), (rng.choice(starts),), number)
                        self.assertIsNotNone(found)
                        self.assertLessEqual(found, worst)
                        met[number[0]] = met.get(number[0], 0) + (found == worst > 0)
        self.assertEqual(sorted(met), ["apart", "otherwise", "price", "touched"])
        self.assertGreater(min(met[word] for word in ("apart", "otherwise", "price")), 2)

    def test_a_distance_with_sides(self):
        rng = self.rng(3)
        for _ in range(60):
            desk = random_counting_desk(rng)
            for number in numbers_for(rng, desk):
                told = {sort: float("inf") if v is None else v for sort, v in table(desk, number)}
                for kind, x, h in told:
                    for y in range(desk.kinds[kind][1]):
                        if (kind, h, y) in told and x != y:
                            self.assertLessEqual(told[(kind, x, y)], told[(kind, x, h)] + told[(kind, h, y)])


class Holds(Case):
    def test_least_raised_and_lowered(self):
        rng = self.rng(4)
        for _ in range(80):
            desk = random_counting_desk(rng)
            for number in numbers_for(rng, desk):
                told = table(desk, number)
                self.same(table_holds(desk, number, told), True)
                self.same(table_holds(desk, number, tuple((sort, None) for sort, _ in told)), True)
                for at, (sort, v) in enumerate(told):
                    lower = [] if v == 0 else [10 ** 9 if v is None else v - 1]
                    for turned in lower:
                        self.same(table_holds(desk, number, told[:at] + ((sort, turned),) + told[at + 1:]), False)
                    if v is not None:
                        higher = told[:at] + ((sort, v + 1),) + told[at + 1:]
                        self.same(table_holds(desk, number, higher), holds_again(desk, number, higher))

    def test_any_value(self):
        told = table(BOUGHT, PRICE)
        rng = self.rng(5)
        values = odd_values() + [as_lists(told), list(told), told + told[:1], told[:-1], told[::-1], tuple(map(list, told))]
        values += [spoilt(rng, told) for _ in range(1500)]
        seen = {True: 0, False: 0}
        for value in values:
            want = holds_again(BOUGHT, PRICE, value)
            self.same(table_holds(BOUGHT, PRICE, value), want)
            seen[want] += 1
        self.assertGreater(min(seen.values()), 5)
        for at, turned in ((2, True), (2, -1), (2, "3"), (2, 3.0), (5, (2,))):
            self.same(table_holds(BOUGHT, PRICE, told[:at] + ((told[at][0], turned),) + told[at + 1:]), False)
        truth = table(LOCK, ("apart", ()))
        self.same(table_holds(LOCK, ("apart", ()), truth), True)
        self.same(table_holds(LOCK, ("apart", ()), ((truth[0][0], False),) + truth[1:]), False)
        self.same(table_holds(desk=LOCK, number=("apart", [0]), value=truth), False)

    def test_random_tables(self):
        rng = self.rng(6)
        for _ in range(60):
            desk = random_counting_desk(rng)
            for number in numbers_for(rng, desk):
                value = tuple((sort, rng.choice([v, v, v, None, 0, 1, 5])) for sort, v in table(desk, number))
                self.same(table_holds(desk, number, value), holds_again(desk, number, value))


class Errors(Case):
    def test_what_is_counted(self):
        rng = self.rng(7)
        for desk in (MAIL, COPY):
            for value in wrong_numbers(rng, spoilt, odd_values):
                at = wrong_number(desk, value)
                if at is None:
                    self.assertTrue(is_tuples(table(desk, value)))
                else:
                    self.fails(InvalidNumber, at, base, desk, value, None)
                    self.fails(InvalidNumber, at, table, desk, value)
                    self.fails(InvalidNumber, at, table_holds, desk, value, None)
                    self.fails(InvalidNumber, at, worst_of, desk, 0, value)
        self.fails(InvalidNumber, 1, table, MAIL, ("apart", (0, 1)))
        self.fails(InvalidNumber, 1, table, MAIL, ("touched", (0, 0)))
        self.fails(InvalidNumber, 2, table, MAIL, ("otherwise", (0, 1, 2)))
        self.fails(InvalidNumber, 0, table, MAIL, ("otherwise", (False,)))
        self.fails(InvalidNumber, -1, table, MAIL, ("price", ()))

    def test_sorts(self):
        desk = Desk((("a", 3), ("b", 2)), (("set", (0,), (((0,), (1,)),)),), ())
        for value in odd_values() + [(0, 0, 0), (0, 0, 2), (0, 2, 1), (1, 0, 1), (2, 0, 1), (0, 0, True), (0, 1), (0, 1, 0, 0), (-1, 0, 1)]:
            self.fails(InvalidSort, -1, base, desk, PRICE, value)
        self.same(base(desk, PRICE, (0, 1, 0)), None)

    def test_tools_come_first(self):
        for value in odd_values() + [2, -1]:
            if type(value) is int and 0 <= value < 2:
                continue
            self.fails(InvalidSize, "tool", worst_of, MAIL, value, None)

    def test_arguments_stay(self):
        rng = self.rng(8)
        history = random_history(rng, MAIL)
        number = ["otherwise", [0, 1]]
        table(MAIL, number)
        worst_of(MAIL, 0, number)
        table_holds(MAIL, number, history)
        base(MAIL, number, [0, 1, 0])
        self.assertEqual(number, ["otherwise", [0, 1]])


if __name__ == "__main__":
    unittest.main()
