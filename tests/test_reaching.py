"""[17], module reaching: safe tools, bad ways, rings, numbers that are reached."""

import unittest

from lateno.counts import counted
from lateno.desks import Desk
from lateno.errors import InvalidNumber, InvalidSize
from lateno.reaching import PRICE, bad_way, is_safe, reached, ring, ring_holds, way_holds
from lateno.tables import worst_of
from samples import COPY, MAIL, Case, as_lists, is_tuples, no_bools, odd_values, spoilt
from table_samples import BOUGHT, COPIED, base_again, comes_again, count_again, given, lines_again, numbers_for, price_again
from table_samples import random_counting_desk, wrong_number, wrong_numbers, worst_again

BAD_WAY = (0, 0, ((1, 0, (), 0), (0, 0, (), 0)))


def hops_again(lines, sort, value):
    """The sort that any value leads to if it is hops from this one, else None."""
    if type(value) is not tuple:
        return None
    for hop in value:
        if type(hop) is not tuple or len(hop) != 4 or not is_tuples(hop) or not no_bools(hop):
            return None
        told = {step: pairs for step, _, pairs in lines[sort]}
        try:
            pairs = told.get(hop[:3])
        except TypeError:
            return None
        if pairs is None or type(hop[3]) is not int or not 0 <= hop[3] < len(pairs) or pairs[hop[3]] not in given(pairs):
            return None
        sort = pairs[hop[3]]
    return sort


def way_again(desk, lines, tool, value):
    """The sort that any value leads to if it is a way of the tool, else None."""
    if type(value) is not tuple or len(value) != 3 or type(value[0]) is not int or type(value[1]) is not int:
        return None
    _, roles, rows = desk.tools[tool]
    if not 0 <= value[0] < len(rows) or not 0 <= value[1] < len(roles):
        return None
    before, behind = rows[value[0]]
    if any(state not in comes_again(desk)[kind] for kind, state in zip(roles, before)) or before[value[1]] == behind[value[1]]:
        return None
    return hops_again(lines, (roles[value[1]], behind[value[1]], before[value[1]]), value[2])


def round_again(desk, lines, number, sort, hops, spur):
    if type(hops) is not tuple or not hops or hops_again(lines, sort, hops) != sort:
        return False
    _, gain, pairs = next(line for line in lines[sort] if line[0] == hops[0][:3])
    if spur is None:
        return gain > 0
    if type(spur) is not tuple or len(spur) != 3 or type(spur[0]) is not int or not 0 <= spur[0] < len(pairs):
        return False
    if spur[0] == hops[0][3] or pairs[spur[0]] not in given(pairs):
        return False
    end = hops_again(lines, pairs[spur[0]], spur[1])
    if end is None:
        return False
    if spur[2] is None:
        return base_again(desk, number, end) != 0
    if not is_tuples(spur[2]) or not no_bools(spur[2]):
        return False
    return any(step == spur[2] and gain > 0 for step, gain, _ in lines[end])


def ring_again(desk, lines, tool, number, value):
    if type(value) is not tuple or len(value) != 3:
        return False
    sort = way_again(desk, lines, tool, value[0])
    return sort is not None and round_again(desk, lines, number, sort, value[1], value[2])


def sorts_come_to(desk, lines, tool):
    """All sorts that a No to a try of the tool comes to, the ones it leaves among them."""
    told = comes_again(desk)
    _, roles, rows = desk.tools[tool]
    left = []
    for before, behind in rows:
        if all(state in told[kind] for kind, state in zip(roles, before)):
            left += given(zip(roles, behind, before))
    seen = set(left)
    while left:
        for _, _, pairs in lines[left.pop()]:
            for pair in given(pairs):
                if pair not in seen:
                    seen.add(pair)
                    left.append(pair)
    return seen


class Ways(Case):
    def test_by_hand(self):
        self.same(PRICE, ("price",))
        self.same([is_safe(MAIL, 0), is_safe(MAIL, 1), is_safe(BOUGHT, 0), is_safe(desk=BOUGHT, tool=1)], [False, False, True, True])
        self.same(way_holds(MAIL, 0, BAD_WAY), True)
        self.same(way_holds(BOUGHT, 0, BAD_WAY), False)
        self.same(way_holds(desk=MAIL, tool=0, value=bad_way(MAIL, 0)), True)
        self.same(way_holds(MAIL, 1, (0, 0, ())), True)
        self.same(bad_way(desk=BOUGHT, tool=0), None)
        self.same(is_safe(COPY, 0), False)
        self.same(bad_way(COPY, 0), (0, 0, ()))
        self.same(is_safe(COPIED, 0), True)

    def test_against_telling_again(self):
        rng = self.rng(1)
        seen = {True: 0, False: 0}
        for _ in range(500):
            desk = random_counting_desk(rng)
            lines = lines_again(desk, PRICE)
            for tool in range(len(desk.tools)):
                want = any(price_again(desk, *sort) is None for sort in sorts_come_to(desk, lines, tool))
                self.same(is_safe(desk, tool), not want)
                way = bad_way(desk, tool)
                self.same(way is None, not want)
                if want:
                    self.assertIsNone(price_again(desk, *way_again(desk, lines, tool, way)))
                    self.same(way_holds(desk, tool, way), True)
                    for _ in range(4):
                        value = spoilt(rng, way)
                        end = way_again(desk, lines, tool, value)
                        self.same(way_holds(desk, tool, value), end is not None and price_again(desk, *end) is None)
                seen[want] += 1
        self.assertGreater(min(seen.values()), 100)

    def test_random_ways(self):
        rng = self.rng(2)
        seen = {True: 0, False: 0}
        for _ in range(200):
            desk = random_counting_desk(rng)
            lines = lines_again(desk, PRICE)
            tool = rng.randrange(len(desk.tools))
            for _ in range(6):
                hops = []
                rows = desk.tools[tool][2]
                if not rows:
                    continue
                row, role = rng.randrange(len(rows)), rng.randrange(len(desk.tools[tool][1]))
                end = way_again(desk, lines, tool, (row, role, ()))
                for _ in range(rng.randint(0, 4)):
                    ways = [] if end is None else [step + (on,) for step, _, pairs in lines[end] for on, pair in enumerate(pairs)]
                    if ways:
                        hops.append(rng.choice(ways))
                        end = hops_again(lines, end, tuple(hops[-1:]))
                want = end is not None and price_again(desk, *end) is None
                self.same(way_holds(desk, tool, (row, role, tuple(hops))), want)
                seen[want] += 1
        self.assertGreater(min(seen.values()), 20)

    def test_any_value(self):
        values = odd_values() + [list(BAD_WAY), (0, 0, list(BAD_WAY[2])), (0, 0, ([1, 0, (), 0], BAD_WAY[2][1])), (False, 0, BAD_WAY[2]),
                                 (0, False, BAD_WAY[2]), (0, 1, ()), (1, 0, ()), (-1, 0, ()), (0, -1, ()), BAD_WAY + (0,), (0, 0),
                                 (0, 0, ((1, 0, (), False), BAD_WAY[2][1])), (0, 0, ((1, 0, [], 0), BAD_WAY[2][1])), (0, 0, None),
                                 (0, 0, ((1, 0, (), 1),)), (0, 0, ((2, 0, (), 0),)), (0, 0, ((1, 1, (), 0),)), (0, 0, ((1, 0, (0,), 0),)),
                                 (0, 0, BAD_WAY[2][:1]), (0, 0, ((1, 0, ()),)), (0, 0, (None,)), (0, 0, ((True, 0, (), 0), BAD_WAY[2][1]))]
        for value in values:
            self.same(way_holds(MAIL, 0, value), False)

    def test_rows_that_do_not_come(self):
        desk = Desk((("a", 3),), (("t", (0,), (((0,), (0,)), ((1,), (2,)))),), ())
        self.same(is_safe(desk, 0), True)
        self.same(way_holds(desk, 0, (1, 0, ())), False)
        self.same(way_holds(desk, 0, (0, 0, ())), False)


class Rings(Case):
    def test_by_hand(self):
        found = ring(COPIED, 0, PRICE)
        self.same(ring_holds(COPIED, 0, PRICE, found), True)
        self.same(ring_holds(desk=COPIED, tool=0, number=["price"], value=((0, 0, ()), ((1, 0, (0,), 0),), (1, (), None))), True)
        # the copy goes on, the first mail is what comes beside
        self.same(ring_holds(COPIED, 0, PRICE, ((0, 0, ()), ((1, 0, (0,), 1),), (0, (), None))), True)
        self.same(ring_holds(COPIED, 0, PRICE, ((0, 0, ()), ((1, 0, (0,), 0),), (0, (), None))), False)
        self.same(ring_holds(COPIED, 0, PRICE, ((0, 0, ()), ((1, 0, (0,), 0),), None)), False)
        self.same(ring_holds(COPIED, 0, PRICE, ((0, 0, ()), (), (1, (), None))), False)
        self.same(ring(BOUGHT, 0, PRICE), None)
        self.same(ring(desk=MAIL, tool=0, number=("otherwise", (0, 1))), None)

    def test_each_of_the_ways_in_which_the_first_hop_counts(self):
        # an other role that is given counts by itself: touched; the try: otherwise; what is given beside: a base, a step
        touched = ("touched", (0,))
        self.same(ring_holds(COPIED, 0, touched, ((0, 0, ()), ((1, 0, (0,), 0),), None)), True)
        other = ("otherwise", (1,))
        self.same(ring_holds(COPIED, 0, other, ((0, 0, ()), ((1, 0, (0,), 0),), None)), True)
        self.same(ring_holds(COPIED, 0, ("otherwise", (0,)), ((0, 0, ()), ((1, 0, (0,), 0),), None)), False)
        sign = ("otherwise", (0,))
        self.same(ring_holds(COPIED, 0, sign, ((0, 0, ()), ((1, 0, (0,), 0),), (1, (), (0, 0, ())))), True)
        self.same(ring_holds(COPIED, 0, sign, ((0, 0, ()), ((1, 0, (0,), 0),), (1, ((1, 0, (0,), 1),), (0, 0, ())))), True)
        self.same(ring_holds(COPIED, 0, sign, ((0, 0, ()), ((1, 0, (0,), 0),), (1, (), (1, 0, (0,))))), False)
        self.same(ring_holds(COPIED, 0, sign, ((0, 0, ()), ((1, 0, (0,), 0),), (1, (), None))), False)
        self.same(ring_holds(COPIED, 0, ("apart", (0,)), ((0, 0, ()), ((1, 0, (0,), 0),), (1, (), None))), True)
        # a bad pair is a base, too
        self.same(ring_holds(COPY, 0, PRICE, ((0, 0, ()), ((1, 0, (0,), 0),), (1, (), None))), True)
        for number in (touched, other, sign, ("apart", (0,)), PRICE):
            self.same(ring_holds(COPIED, 0, number, ring(COPIED, 0, number)), True)
        self.same(ring(COPIED, 0, ("apart", ())), None)
        # what is led to must be apart still, and what gains must be a step in tuples
        alike = (1, ((0, 0, (), 0),), None)
        self.same(ring_holds(COPIED, 0, ("apart", (0,)), ((0, 0, ()), ((1, 0, (0,), 0),), alike)), False)
        for last in ([0, 0, ()], (0, 0, []), (False, 0, ()), (0, False, ()), (0, 0), (0, 0, (), 0), (2, 0, ()), (0, 1, ()), 0, True):
            self.same(ring_holds(COPIED, 0, sign, ((0, 0, ()), ((1, 0, (0,), 0),), (1, (), last))), False)

    def test_against_telling_again(self):
        rng = self.rng(3)
        seen = {}
        for _ in range(200):
            desk = random_counting_desk(rng)
            for number in numbers_for(rng, desk):
                lines = lines_again(desk, number)
                for tool in range(len(desk.tools)):
                    found = ring(desk, tool, number)
                    if found is not None:
                        self.assertTrue(ring_again(desk, lines, tool, number, found))
                        self.same(ring_holds(desk, tool, number, found), True)
                        for _ in range(4):
                            value = spoilt(rng, found)
                            self.same(ring_holds(desk, tool, number, value), ring_again(desk, lines, tool, number, value))
                        self.assertIsNone(worst_of(desk, tool, number))
                        spur = found[2]
                        key = (number[0], "gains" if spur is None else "base" if spur[2] is None else "step")
                        seen[key] = seen.get(key, 0) + 1
                    elif worst_of(desk, tool, number) is None:
                        # then some pair that is come to counts without end by itself
                        self.assertTrue(any(base_again(desk, number, sort) is None for sort in sorts_come_to(desk, lines, tool)))
                        seen["none"] = seen.get("none", 0) + 1
        self.assertGreater(len(seen), 5)

    def test_any_value(self):
        told = ((0, 0, ()), ((1, 0, (0,), 0),), (1, (), None))
        values = odd_values() + [list(told), (list(told[0]),) + told[1:], (told[0], list(told[1]), told[2]), told[:2] + (list(told[2]),),
                                 told[:2], told + (None,), told[:2] + ((True, (), None),), told[:2] + ((1, [], None),),
                                 told[:2] + ((1, (), ()),), told[:2] + ((1, (), [0, 0, ()]),), told[:2] + ((2, (), None),),
                                 told[:2] + ((-1, (), None),), told[:2] + ((1, ()),), told[:2] + ((1, None, None),), (None,) + told[1:],
                                 (told[0], None, told[2]), (told[0], "ab", told[2]), (told[0], MAIL, told[2]), (told[0], 1, told[2])]
        for value in values:
            self.same(ring_holds(COPIED, 0, PRICE, value), False)
            self.same(ring_holds(COPIED, 0, PRICE, told[:2] + (value,)), False)


class Reached(Case):
    def test_by_hand(self):
        history, at = reached(BOUGHT, 0, PRICE, 3)
        self.same(counted(BOUGHT, history, (at,), PRICE), 3)
        self.same(reached(BOUGHT, 0, PRICE, 4), None)
        history, at = reached(MAIL, 0, PRICE, 40)
        self.same(counted(MAIL, history, (at,), PRICE), None)
        history, at = reached(desk=COPIED, tool=0, number=["price"], least=40)
        self.assertGreaterEqual(counted(COPIED, history, (at,), PRICE), 40)
        history, at = reached(MAIL, 0, ("otherwise", [0, 1]), 3)
        self.same(counted(MAIL, history, (at,), ("otherwise", (0, 1))), 3)
        history, at = reached(MAIL, 1, PRICE, 0)
        self.same(history[1][at][0], 1)

    def test_no_row_of_the_tool_can_come(self):
        desk = Desk((("a", 3),), (("none", (0,), ()), ("far", (0,), (((2,), (1,)),)), ("same", (0,), (((0,), (0,)),))), ())
        for tool in (0, 1):
            self.same(reached(desk, tool, PRICE, 0), None)
        self.same(reached(desk, 2, PRICE, 0), (((0,), ((2, (0,)),)), 0))
        self.same(reached(desk, 2, PRICE, 1), None)

    def test_against_the_worst(self):
        rng = self.rng(4)
        seen = {}
        for _ in range(250):
            desk = random_counting_desk(rng)
            for number in numbers_for(rng, desk):
                for tool in range(len(desk.tools)):
                    worst = worst_again(desk, tool, number)
                    can_come = any(all(state in comes_again(desk)[kind] for kind, state in zip(desk.tools[tool][1], before))
                                   for before, _ in desk.tools[tool][2])
                    for least in {0, 1, rng.randint(0, 40), 40, min(40, worst or 0), min(40, (worst or 0) + 1)}:
                        found = reached(desk, tool, number, least)
                        if not can_come or (worst is not None and least > worst):
                            self.same(found, None)
                            continue
                        (things, tries), at = found
                        self.assertTrue(is_tuples(found))
                        self.same(tries[at][0], tool)
                        count = count_again(desk, (things, tries), (at,), number)
                        self.same(counted(desk, (things, tries), (at,), number), count)
                        if count is None:
                            self.same(number, PRICE)
                        else:
                            self.assertGreaterEqual(count, least)
                        key = (number[0], least > 0, worst is None)
                        seen[key] = seen.get(key, 0) + 1
        self.assertGreater(len(seen), 14)

    def test_long_rings(self):
        # eleven turns of one thing for each that comes apart
        states = [((x,), ((x + 1) % 6,)) for x in range(6)]
        desk = Desk((("a", 6), ("b", 2)), (
            ("turn", (0,), states), ("mark", (0, 1), (((1, 0), (1, 1)),)), ("set", (0,), (((0,), (3,)),)),
        ), tuple((kind, x, y, 1) for kind, many in ((0, 6), (1, 2)) for x in range(many) for y in range(many) if x != y))
        for number in (PRICE, ("apart", (1,)), ("touched", (1,)), ("otherwise", (1,))):
            history, at = reached(desk, 2, number, 40)
            self.assertGreaterEqual(counted(desk, history, (at,), number), 40)


class Errors(Case):
    def test_tools_numbers_leasts(self):
        for value in odd_values() + [2, -1]:
            if type(value) is int and 0 <= value < 2:
                continue
            for call, rest in ((is_safe, ()), (bad_way, ()), (way_holds, (None,)), (ring, (None,)), (ring_holds, (None, None)),
                               (reached, (None, None))):
                self.fails(InvalidSize, "tool", call, MAIL, value, *rest)
        rng = self.rng(5)
        for value in wrong_numbers(rng, spoilt, odd_values):
            at = wrong_number(MAIL, value)
            if at is not None:
                self.fails(InvalidNumber, at, ring, MAIL, 0, value)
                self.fails(InvalidNumber, at, ring_holds, MAIL, 0, value, None)
                self.fails(InvalidNumber, at, reached, MAIL, 0, value, None)
        for value in odd_values() + [-1, 41, 10 ** 6]:
            if type(value) is not int or not 0 <= value <= 40:
                self.fails(InvalidSize, "least", reached, MAIL, 0, PRICE, value)
                none = Desk((("a", 3),), (("none", (0,), ()),), ())
                self.fails(InvalidSize, "least", reached, none, 0, PRICE, value)

    def test_arguments_stay(self):
        number = ["otherwise", [0, 1]]
        reached(MAIL, 0, number, 2)
        ring(MAIL, 0, number)
        ring_holds(MAIL, 0, number, as_lists(BAD_WAY))
        self.assertEqual(number, ["otherwise", [0, 1]])


if __name__ == "__main__":
    unittest.main()
