"""[17], module exact: tables with papers that they are the least ones."""

import unittest

from lateno.desks import Desk
from lateno.errors import InvalidNumber
from lateno.exact import exact, exact_holds
from lateno.tables import table
from samples import COPY, MAIL, Case, as_lists, is_tuples, no_bools, odd_values, spoilt
from table_samples import BOUGHT, COPIED, PRICE, base_again, given, lines_again, numbers_for, random_counting_desk, wrong_number
from table_samples import wrong_numbers
from test_reaching import round_again

SIGN = ("otherwise", (0,))


def reason_again(desk, lines, number, told, sort, reason):
    """Whether a tuple of tuples is a reason for the sort, by (V, rank) told for all sorts."""
    v, rank = told[sort]
    if reason == ("base",):
        return v == base_again(desk, number, sort)
    if len(reason) == 3 and reason[0] == "ring":
        return v is None and round_again(desk, lines, number, sort, reason[1], reason[2])
    steps = [line for line in lines[sort] if len(reason) > 1 and line[0] == reason[1]]
    if not steps:
        return False
    _, gain, pairs = steps[0]
    if reason[0] == "step" and len(reason) == 2:
        behind = [told[pair] for pair in given(pairs)]
        return v is not None and all(w is not None and r < rank for w, r in behind) and v == gain + sum(w for w, _ in behind)
    if reason[0] == "on" and len(reason) == 3:
        if type(reason[2]) is not int or not 0 <= reason[2] < len(pairs) or pairs[reason[2]] not in given(pairs):
            return False
        w, r = told[pairs[reason[2]]]
        return v is None and w is None and r < rank
    return False


def paper_again(desk, lines, number, value):
    """[17] told again for any value."""
    order = sorted(lines)
    if type(value) is not tuple or len(value) != len(order) or not is_tuples(value) or not no_bools(value):
        return False
    told = {}
    for sort, row in zip(order, value):
        if type(row) is not tuple or len(row) != 4 or row[0] != sort or type(row[2]) is not tuple or not row[2]:
            return False
        if not (row[1] is None or (type(row[1]) is int and row[1] >= 0)) or type(row[3]) is not int or row[3] < 0:
            return False
        told[sort] = (row[1], row[3])
    infinite = float("inf")
    numbers = {sort: infinite if told[sort][0] is None else told[sort][0] for sort in order}
    for sort in order:
        first = base_again(desk, number, sort)
        if numbers[sort] < (infinite if first is None else first):
            return False
        if any(numbers[sort] < gain + sum(numbers[pair] for pair in given(pairs)) for _, gain, pairs in lines[sort]):
            return False
    return all(reason_again(desk, lines, number, told, row[0], row[2]) for row in value)


def turned(value, at, place, other):
    """The paper with one entry of one row changed."""
    row = value[at][:place] + (other,) + value[at][place + 1:]
    return value[:at] + (row,) + value[at + 1:]


class Exact(Case):
    def test_by_hand(self):
        found = exact(BOUGHT, PRICE)
        self.same([row[:2] for row in found], [row for row in table(BOUGHT, PRICE)])
        self.same(exact_holds(BOUGHT, PRICE, found), True)
        told = (((0, 0, 1), None, ("base",), 0), ((0, 0, 2), None, ("base",), 3), ((0, 1, 0), 3, ("step", (1, 0, ())), 2),
                ((0, 1, 2), None, ("on", (1, 0, ()), 0), 1), ((0, 2, 0), 3, ("base",), 1), ((0, 2, 1), 2, ("base",), 0))
        self.same(exact_holds(desk=BOUGHT, number=["price"], value=told), False)
        told = told[:3] + (((0, 1, 2), None, ("base",), 1),) + told[4:]
        self.same(exact_holds(desk=BOUGHT, number=["price"], value=told), True)
        # a lesser rank is wanted
        self.same(exact_holds(BOUGHT, PRICE, turned(told, 2, 3, 1)), False)
        self.same(exact_holds(BOUGHT, PRICE, turned(told, 2, 3, 10 ** 30)), True)
        # what goes on to a sort with a number is not endless
        endless = turned(turned(told, 2, 1, None), 2, 3, 9)
        self.same(exact_holds(BOUGHT, PRICE, turned(endless, 2, 2, ("on", (1, 0, ()), 0))), False)
        self.same(exact_holds(BOUGHT, PRICE, endless), False)
        # out to draft is 3 by its own price, and by the step to (2, 1) no more than 2
        self.same(exact_holds(BOUGHT, PRICE, turned(told, 4, 2, ("step", (0, 0, ())))), False)
        self.same(exact_holds(BOUGHT, PRICE, ()), False)

    def test_ways_on_and_rings(self):
        found = exact(COPIED, SIGN)
        self.same(exact_holds(COPIED, SIGN, found), True)
        told = {row[0]: row for row in found}
        self.same(told[(0, 1, 0)][1], None)
        self.same(told[(0, 1, 0)][2][0], "ring")
        desk = Desk((("a", 3),), (
            ("set", (0,), (((0,), (1,)),)), ("copy", (0, 0), (((1, 0), (1, 1)),)), ("up", (0,), (((2,), (1,)),)),
            ("far", (0,), (((1,), (2,)),)),
        ), tuple((0, x, y, 1) for x in range(3) for y in range(3) if x != y))
        found = exact(desk, PRICE)
        self.same(exact_holds(desk, PRICE, found), True)
        for number in (PRICE, ("apart", (0,)), ("touched", (0,)), ("otherwise", (1,)), ("otherwise", (0, 2))):
            self.same(exact_holds(desk, number, exact(desk, number)), True)
        # a sort that is on a ring may also tell that it goes on to one of lesser rank, but not to one of its own
        rows = {row[0]: at for at, row in enumerate(found)}
        lines = lines_again(desk, PRICE)
        for sort, at in rows.items():
            for step, _, pairs in lines[sort]:
                for role in range(len(pairs)):
                    for rank in (0, 1, 9):
                        value = turned(turned(found, at, 2, ("on", step, role)), at, 3, rank)
                        self.same(exact_holds(desk, PRICE, value), paper_again(desk, lines, PRICE, value))

    def test_against_the_table(self):
        rng = self.rng(1)
        seen = {}
        for _ in range(300):
            desk = random_counting_desk(rng)
            for number in numbers_for(rng, desk):
                found = exact(desk, as_lists(number))
                self.same(tuple(row[:2] for row in found), table(desk, number))
                self.assertTrue(is_tuples(found))
                self.same(exact_holds(desk, number, found), True)
                self.assertTrue(paper_again(desk, lines_again(desk, number), number, found))
                for row in found:
                    seen[row[2][0]] = seen.get(row[2][0], 0) + 1
        self.assertEqual(sorted(seen), ["base", "on", "ring", "step"])
        self.assertGreater(min(seen.values()), 20)


class Holds(Case):
    def test_one_entry_changed(self):
        rng = self.rng(2)
        seen = {True: 0, False: 0}
        for _ in range(120):
            desk = random_counting_desk(rng)
            number = rng.choice(numbers_for(rng, desk))
            lines = lines_again(desk, number)
            found = exact(desk, number)
            if not found:
                continue
            for _ in range(12):
                at = rng.randrange(len(found))
                sort, v, reason, rank = found[at]
                step, _, pairs = rng.choice(lines[sort]) if lines[sort] else ((0, 0, ()), 0, ())
                other = rng.choice([
                    (1, None if v is not None else 5), (1, 0), (1, (v or 0) + 1), (1, True), (1, -1), (3, rank + 1), (3, max(rank - 1, 0)), (3, 0),
                    (3, None), (3, -1), (3, False), (3, "0"), (0, (sort[0], sort[2], sort[1])), (0, list(sort)), (2, ("base",)), (2, ("step", step)),
                    (2, ("on", step, rng.randrange(3))), (2, ()), (2, ("base", 0)), (2, ("step",)), (2, list(reason)), (2, None), (2, ("ring",)),
                    (2, ("ring", (step + (rng.randrange(2),),), None)), (2, ("step", list(step))), (2, ("Base",)), (2, "base"),
                    (2, (reason[0],)), (2, reason + (None,)),
                ])
                value = turned(found, at, *other)
                want = paper_again(desk, lines, number, value)
                self.same(exact_holds(desk, number, value), want)
                seen[want] += 1
            order = found[::-1] if len(found) > 1 else ()
            for value in (order, found[:-1], found + found[:1], list(found), as_lists(found), tuple(list(row) for row in found)):
                self.same(exact_holds(desk, number, value), False)
            for _ in range(6):
                value = spoilt(rng, found)
                self.same(exact_holds(desk, number, value), paper_again(desk, lines, number, value))
        self.assertGreater(min(seen.values()), 50)

    def test_no_table_but_the_least(self):
        rng = self.rng(3)
        for _ in range(60):
            desk = random_counting_desk(rng)
            number = rng.choice(numbers_for(rng, desk))
            lines = lines_again(desk, number)
            found = exact(desk, number)
            # raised by one, with each reason there is, it is no paper
            for at, (sort, v, _, _) in enumerate(found):
                for other in [("base",)] + [("step", step) for step, _, _ in lines[sort]]:
                    for rank in (0, 50):
                        value = turned(turned(turned(found, at, 2, other), at, 3, rank), at, 1, 7 if v is None else v + 1)
                        self.same(exact_holds(desk, number, value), False)

    def test_any_value(self):
        for value in odd_values():
            self.same(exact_holds(BOUGHT, PRICE, value), False)
            self.same(exact_holds(BOUGHT, PRICE, (value,) * 6), False)
            for place in range(4):
                changed = turned(exact(COPY, PRICE), 0, place, value)
                self.same(exact_holds(COPY, PRICE, changed), paper_again(COPY, lines_again(COPY, PRICE), PRICE, changed))
        empty = Desk((("a", 2),), (), ())
        self.same(exact(empty, PRICE), ())
        self.same(exact_holds(empty, PRICE, ()), True)
        self.same(exact_holds(empty, PRICE, []), False)


class Errors(Case):
    def test_what_is_counted(self):
        rng = self.rng(4)
        for value in wrong_numbers(rng, spoilt, odd_values):
            at = wrong_number(MAIL, value)
            if at is not None:
                self.fails(InvalidNumber, at, exact, MAIL, value)
                self.fails(InvalidNumber, at, exact_holds, MAIL, value, None)


if __name__ == "__main__":
    unittest.main()
