"""[5]: desks, and what [1] and [2] ask of them."""

import unittest

from lateno.desks import Desk, is_total, kind_number, need_offers, tool_number, with_repairs
from lateno.errors import InvalidDesk, InvalidOffers
from lateno.houses import House
from samples import COPY, LOCK, MAIL, SEND, SIGN, Case, as_lists, is_tuples, nested, odd_values, random_desk
from samples import random_repairs, spoilt

KINDS = (("mail", 3), ("q", 2))
TOOLS = (
    ("sign", (0,), (((0,), (1,)), ((1,), (1,)))),
    ("pass", (0, 1, 0), (((0, 0, 1), (1, 1, 2)), ((0, 1, 0), (0, 1, 0)), ((1, 0, 0), (2, 0, 2)))),
    ("none", (1,), ()),
)
REPAIRS = ((0, 0, 1, 5), (0, 2, 0, 1000000), (1, 1, 0, 1))


def whole(value):
    return type(value) is int


def listed(value, many=None):
    return type(value) in (list, tuple) and (many is None or len(value) == many)


def is_name(value):
    return type(value) is str and 1 <= len(value) <= 8 and set(value) <= set("abcdefghijklmnopqrstuvwxyz")


def row_is_wrong(kinds, roles, ahead, row):
    if not listed(row, 2):
        return True
    for side in row:
        if not listed(side, len(roles)):
            return True
        for state, kind in zip(side, roles):
            if not whole(state) or state not in range(kinds[kind][1]):
                return True
    return any(tuple(other[0]) >= tuple(row[0]) for other in ahead)


def repair_is_wrong(kinds, ahead, repair):
    if not listed(repair, 4) or not all(whole(one) for one in repair):
        return True
    kind, x, y, price = repair
    if kind not in range(len(kinds)) or x == y or price < 1 or price > 10 ** 6:
        return True
    if x not in range(kinds[kind][1]) or y not in range(kinds[kind][1]):
        return True
    return any(tuple(other[:3]) >= (kind, x, y) for other in ahead)


def tool_is_wrong(kinds, ahead, tool):
    if not listed(tool, 3) or not is_name(tool[0]) or tool[0] in [other[0] for other in ahead]:
        return True
    if not listed(tool[1]) or len(tool[1]) not in (1, 2, 3):
        return True
    return not all(whole(kind) and kind in range(len(kinds)) for kind in tool[1])


def wrong_place(kinds, tools, repairs):
    """Told again, apart from the package: the place of the first fault, None for a right desk."""
    if not listed(kinds) or not 0 < len(kinds) < 7:
        return ("kinds", -1)
    for i, kind in enumerate(kinds):
        if not listed(kind, 2) or not is_name(kind[0]) or kind[0] in [other[0] for other in kinds[:i]]:
            return ("kinds", i)
        if not whole(kind[1]) or kind[1] not in (1, 2, 3, 4, 5, 6):
            return ("kinds", i)
    if not listed(tools) or len(tools) > 20:
        return ("tools", -1)
    for i, tool in enumerate(tools):
        if tool_is_wrong(kinds, tools[:i], tool):
            return ("tools", i)
        if not listed(tool[2]):
            return ("rows", i, -1)
        for r, row in enumerate(tool[2]):
            if row_is_wrong(kinds, tool[1], tool[2][:r], row):
                return ("rows", i, r)
    if not listed(repairs):
        return ("repairs", -1)
    for i, repair in enumerate(repairs):
        if repair_is_wrong(kinds, repairs[:i], repair):
            return ("repairs", i)
    return None


class RightDesks(Case):
    def test_attributes_and_told_of_tuples_and_of_lists(self):
        for kinds, tools, repairs in ((KINDS, TOOLS, REPAIRS), as_lists((KINDS, TOOLS, REPAIRS))):
            for desk in (Desk(kinds, tools, repairs), Desk(repairs=repairs, tools=tools, kinds=kinds)):
                self.same(desk.kinds, KINDS)
                self.same(desk.tools, TOOLS)
                self.same(desk.repairs, REPAIRS)
                self.same(desk.told, (KINDS, TOOLS, REPAIRS))

    def test_arguments_neither_change_nor_stay_tied_to_the_desk(self):
        told = as_lists((KINDS, TOOLS, REPAIRS))
        desk = Desk(*told)
        self.assertEqual(told, as_lists((KINDS, TOOLS, REPAIRS)))
        told[0][0][1] = 1
        told[1][0][2][0][1][0] = 2
        told[1][1][1].append(0)
        told[2].clear()
        self.same(desk.told, (KINDS, TOOLS, REPAIRS))
        self.same(desk.behind(0, (0,)), (1,))

    def test_behind(self):
        desk = Desk(KINDS, TOOLS, REPAIRS)
        for befores in ((0, 0, 1), [0, 0, 1]):
            self.same(desk.behind(1, befores), (1, 1, 2))
        self.same(desk.behind(1, (0, 1, 0)), (0, 1, 0))
        self.same(desk.behind(1, (1, 0, 0)), (2, 0, 2))
        self.same(desk.behind(1, (0, 0, 0)), None)
        self.same(desk.behind(tool=0, befores=(1,)), (1,))
        self.same(desk.behind(0, (2,)), None)
        self.same(desk.behind(2, (0,)), None)

    def test_edges_that_are_let(self):
        names = "abcdef"
        Desk([(name, 1) for name in names], [], [])
        Desk([(name, 6) for name in names], [], [(k, x, y, 1) for k in range(6) for x in range(6) for y in range(6)
                                               if x != y])
        Desk([("abcdefgh", 1), ("z", 6)], [("z", (1, 1, 1), [((5, 5, 5), (5, 5, 5))])], [(1, 0, 1, 1), (1, 5, 0, 10 ** 6)])
        twenty = [("t" + letter, (0,), []) for letter in "abcdefghijklmnopqrst"]
        self.assertEqual(len(Desk([("tool", 1)], twenty, []).tools), 20)
        self.assertEqual(Desk([("same", 1)], [("same", (0,), [])], []).told, ((("same", 1),), (("same", (0,), ()),), ()))

    def test_numbers_of_names(self):
        desk = Desk(KINDS, TOOLS, REPAIRS)
        self.same([kind_number(desk, name) for name in ("mail", "q", "sign", "")], [0, 1, -1, -1])
        self.same([tool_number(desk, name) for name in ("sign", "pass", "none", "mail")], [0, 1, 2, -1])
        self.same(kind_number(desk=desk, name="q"), 1)
        self.same(tool_number(desk=desk, name="pass"), 1)
        for value in odd_values():
            if value != "mail":
                self.same(kind_number(desk, value), -1)
            self.same(tool_number(desk, value), -1)

    def test_is_total(self):
        full = ("full", (0, 1), [((x, y), (0, 0)) for x in range(3) for y in range(2)])
        self.same(is_total(Desk(KINDS, [full], [])), True)
        self.same(is_total(Desk(KINDS, [], [])), True)
        self.same(is_total(Desk(KINDS, [("less", (0, 1), full[2][1:])], [])), False)
        self.same(is_total(Desk(KINDS, [full, ("sign", (0,), full[2][:0])], [])), False)
        self.same(is_total(Desk(KINDS, [("sign", (0,), []), full], [])), False)
        self.same(is_total(MAIL), False)
        self.same(is_total(desk=Desk((("a", 3),), [("t", (0,), [((x,), (0,)) for x in range(3)])], ())), True)

    def test_is_total_of_all_but_one_row(self):
        rng = self.rng(8)
        for _ in range(100):
            desk = random_desk(rng, states=4, roles=3, fill=1.0)
            self.same(is_total(desk), True)
            tools = list(desk.tools)
            at = rng.randrange(len(tools))
            name, roles, rows = tools[at]
            gone = rng.randrange(len(rows))
            tools[at] = (name, roles, rows[:gone] + rows[gone + 1:])
            self.same(is_total(Desk(desk.kinds, tools, ())), False)

    def test_objects_are_not_iterated_and_have_no_length(self):
        for thing in (MAIL, House(MAIL, 1)):
            for ask in (iter, len, list, tuple):
                with self.assertRaises(TypeError):
                    ask(thing)
            with self.assertRaises(TypeError):
                0 in thing


class WrongDesks(Case):
    def wrong(self, at, kinds=KINDS, tools=TOOLS, repairs=REPAIRS):
        self.fails(InvalidDesk, at, Desk, kinds, tools, repairs)
        if listed(kinds) and listed(tools) and listed(repairs):
            self.fails(InvalidDesk, at, Desk, as_lists(kinds), as_lists(tools), as_lists(repairs))

    def test_kinds(self):
        for value in odd_values():
            if value not in ([], ()):
                self.wrong(wrong_place(value, TOOLS, REPAIRS), kinds=value)
        for kinds in ((), [], None, "ab", 3, MAIL, {("mail", 3): 1}, [(name, 2) for name in "abcdefg"]):
            self.fails(InvalidDesk, ("kinds", -1), Desk, kinds, TOOLS, REPAIRS)
        bad = [("", 2), ("abcdefghi", 2), ("Mail", 2), ("a1", 2), ("a b", 2), ("\xe4", 2), ("a\n", 2), (None, 2), (1, 2),
               ("q", 2), ("x", 0), ("x", 7), ("x", -1), ("x", True), ("x", "2"), ("x", None), ("x", [2]), ("x",), ("x", 2, 2),
               "xy", None, True, 5, MAIL, (["x"], 2), {"x": 2}]
        for value in bad:
            self.wrong(("kinds", 2), kinds=(("mail", 3), ("q", 2), value))
            self.wrong(("kinds", 2), kinds=(("mail", 3), ("q", 2), value, value), tools=None, repairs=None)
        self.wrong(("kinds", 0), kinds=(("A", 2), ("B", 2)))

    def test_tools(self):
        for tools in (None, "ab", 3, True, MAIL, {}, [("t" + letter, (0,), []) for letter in "abcdefghijklmnopqrstu"]):
            self.fails(InvalidDesk, ("tools", -1), Desk, KINDS, tools, REPAIRS)
        many = [("t" + letter, (0,), []) for letter in "abcdefghijklmnopqrst"]
        self.wrong(("tools", -1), tools=[None] + many)
        bad = [None, 1, True, "abc", (), ("t", (0,)), ("t", (0,), (), ()), ("sign", (0,), ()), ("", (0,), ()),
               ("Sign", (0,), ()), ("abcdefghi", (0,), ()), (1, (0,), ()), (None, (0,), ()), ("t", (), ()),
               ("t", (0, 0, 0, 0), ()), ("t", (2,), ()), ("t", (-1,), ()), ("t", (True,), ()), ("t", (0, "0"), ()),
               ("t", 0, ()), ("t", "0", ()), ("t", None, ()), ("t", (None,), ()), ("t", ((0,),), ()), MAIL]
        for value in bad:
            self.wrong(("tools", 1), tools=(SIGN, value))
            self.wrong(("tools", 1), tools=(SIGN, value, ("t", (0,), None)), repairs=None)
            self.wrong(("tools", 0), tools=(value if value and listed(value, 3) and value[0] != "sign" else None, SIGN))

    def test_form_of_a_tool_is_told_ahead_of_its_rows(self):
        self.wrong(("tools", 0), tools=(("t", (9,), None),))
        self.wrong(("tools", 0), tools=(("T", (0,), ((5,), (5,))),))

    def test_rows(self):
        for rows in (None, "ab", 3, True, MAIL):
            self.wrong(("rows", 1, -1), tools=(SIGN, ("t", (0, 1), rows)))
            self.wrong(("rows", 1, -1), tools=(SIGN, ("t", (0, 1), rows), None), repairs=None)
        first = ((0, 1), (2, 1))
        bad = [None, 1, True, "ab", (), ((1, 0),), ((1, 0), (0, 0), (0, 0)), ((1,), (0, 0)), ((1, 0, 0), (0, 0)),
               ((1, 0), (0,)), ((1, 0), (0, 0, 0)), ((3, 0), (0, 0)), ((1, 2), (0, 0)), ((-1, 0), (0, 0)),
               ((1, 0), (3, 0)), ((1, 0), (0, 2)), ((1, 0), (0, -1)), ((True, 0), (0, 0)), ((1, 0), (0, False)),
               ((1, "0"), (0, 0)), ((1, 0), (None, 0)), ((1, 0), None), (None, (0, 0)), ("10", (0, 0)), ((1, 0), "00"),
               ((0, 1), (0, 0)), ((0, 0), (0, 0)), MAIL, (MAIL, MAIL), ((1, [0]), (0, 0))]
        for value in bad:
            self.wrong(("rows", 1, 1), tools=(SIGN, ("t", (0, 1), (first, value))))
            self.wrong(("rows", 1, 1), tools=(SIGN, ("t", (0, 1), (first, value, None)), SIGN, None), repairs=None)

    def test_tools_are_looked_at_one_after_another_each_with_its_rows(self):
        self.wrong(("rows", 0, 0), tools=(("s", (0,), (None,)), None))
        self.wrong(("rows", 0, 1), tools=(("s", (0,), (((0,), (0,)), ((0,), (0,)))), ("S", (0,), ())))
        self.wrong(("tools", 1), tools=(("s", (0,), ()), None, ("t", (0,), (None,))))

    def test_repairs(self):
        for repairs in (None, "ab", 3, True, MAIL):
            self.fails(InvalidDesk, ("repairs", -1), Desk, KINDS, TOOLS, repairs)
        ahead = (0, 1, 0, 2)
        bad = [None, 1, "abcd", (), (0, 1, 2), (0, 1, 2, 1, 1), (2, 0, 1, 1), (-1, 0, 1, 1), (True, 0, 1, 1), ("0", 0, 1, 1),
               (0, 3, 1, 1), (0, 1, 3, 1), (0, 2, 2, 1), (0, 2, -1, 1), (0, 2, True, 1), (0, None, 1, 1), (0, 1, 2, 0),
               (0, 1, 2, -5), (0, 1, 2, 1000001), (0, 1, 2, True), (0, 1, 2, "1"), (0, 1, 2, None), (0, 1, 0, 3), (0, 0, 1, 1),
               (1, 2, 0, 1), (1, 0, 2, 1), MAIL]
        for value in bad:
            self.wrong(("repairs", 1), repairs=(ahead, value))
            self.wrong(("repairs", 1), repairs=(ahead, value, (1, 0, 1, 1), None))

    def test_the_first_fault_is_told(self):
        self.wrong(("kinds", -1), kinds=None, tools=None, repairs=None)
        self.wrong(("kinds", 0), kinds=((),), tools=None, repairs=None)
        self.wrong(("tools", -1), tools=None, repairs=None)
        self.wrong(("rows", 0, -1), tools=(("t", (0,), None),), repairs=None)

    def test_any_value_in_every_place(self):
        for value in odd_values() + [nested(11)]:
            for at, told in enumerate((KINDS, TOOLS, REPAIRS)):
                whole_told = [KINDS, TOOLS, REPAIRS]
                whole_told[at] = value
                self.judged(*whole_told)
                for place in range(len(told)):
                    whole_told[at] = told[:place] + (value,) + told[place + 1:]
                    self.judged(*whole_told)
                    for part in range(len(told[place])):
                        one = told[place][:part] + (value,) + told[place][part + 1:]
                        whole_told[at] = told[:place] + (one,) + told[place + 1:]
                        self.judged(*whole_told)

    def test_spoilt_desks_are_told_as_a_slow_judge_tells_them(self):
        rng = self.rng(5)
        desks = [MAIL, COPY, LOCK, Desk(KINDS, TOOLS, REPAIRS)] + [random_desk(rng, roles=3) for _ in range(6)]
        for _ in range(4000):
            told = list(rng.choice(desks).told)
            for _ in range(rng.randint(1, 2)):
                at = rng.randrange(3)
                told[at] = spoilt(rng, told[at])
            self.judged(*told)

    def judged(self, kinds, tools, repairs):
        at = wrong_place(kinds, tools, repairs)
        if at is not None:
            self.fails(InvalidDesk, at, Desk, kinds, tools, repairs)
        else:
            desk = Desk(kinds, tools, repairs)
            self.assertEqual(as_lists(desk.told), as_lists((kinds, tools, repairs)))
            self.assertTrue(is_tuples(desk.told))


class Offers(Case):
    def test_right_offers(self):
        desk = Desk(KINDS, TOOLS, ())
        for offers in ((), REPAIRS, as_lists(REPAIRS), list(REPAIRS)):
            self.same(need_offers(desk, offers), tuple(tuple(one) for one in offers))
        self.same(need_offers(desk=desk, value=REPAIRS), REPAIRS)
        self.same(need_offers(Desk(KINDS, TOOLS, REPAIRS), REPAIRS), REPAIRS)

    def test_wrong_offers(self):
        desk = Desk(KINDS, TOOLS, REPAIRS)
        for value in (None, "ab", 3, True, MAIL, {}):
            self.fails(InvalidOffers, -1, need_offers, desk, value)
            self.fails(InvalidOffers, -1, with_repairs, desk, value)
        ahead = ((0, 1, 0, 2), (0, 1, 2, 2))
        bad = [None, (0, 2, 1), (0, 2, 1, 1, 1), (2, 0, 1, 1), (0, 2, 3, 1), (0, 2, 2, 1), (0, 2, 1, 0), (0, 2, 1, 1000001),
               (0, 2, 1, True), (0, True, 2, 1), (0, 1, 2, 5), (0, 1, 0, 1), (0, 0, 1, 1), "abcd", MAIL]
        for value in bad:
            self.fails(InvalidOffers, 2, need_offers, desk, ahead + (value, None))
            self.fails(InvalidOffers, 2, with_repairs, desk, ahead + (value,))
        self.fails(InvalidOffers, 0, need_offers, desk, nested(12))

    def test_any_value_and_spoilt_offers(self):
        rng = self.rng(6)
        for _ in range(2000):
            desk = random_desk(rng)
            manys = [kind[1] for kind in desk.kinds]
            value = spoilt(rng, random_repairs(rng, manys, 1000000))
            at = wrong_place(desk.kinds, (), value)
            if at is None:
                self.same(need_offers(desk, value), tuple(tuple(one) for one in value))
            else:
                self.fails(InvalidOffers, at[1], need_offers, desk, value)

    def test_with_repairs(self):
        desk = Desk(KINDS, TOOLS, ((0, 0, 1, 5), (0, 2, 0, 7), (1, 1, 0, 1)))
        offers = [[0, 0, 1, 4], [0, 1, 2, 9], [0, 2, 0, 8], [1, 0, 1, 3], [1, 1, 0, 1]]
        bought = with_repairs(desk, offers)
        self.same(bought.told, (KINDS, TOOLS, ((0, 0, 1, 4), (0, 1, 2, 9), (0, 2, 0, 7), (1, 0, 1, 3), (1, 1, 0, 1))))
        self.assertIsInstance(bought, Desk)
        self.same(desk.repairs, ((0, 0, 1, 5), (0, 2, 0, 7), (1, 1, 0, 1)))
        self.assertEqual(offers, [[0, 0, 1, 4], [0, 1, 2, 9], [0, 2, 0, 8], [1, 0, 1, 3], [1, 1, 0, 1]])
        self.same(with_repairs(desk=desk, offers=()).told, desk.told)

    def test_with_repairs_the_cheaper_one(self):
        rng = self.rng(7)
        for _ in range(200):
            desk = random_desk(rng)
            offers = random_repairs(rng, [kind[1] for kind in desk.kinds])
            told = {}
            for kind, x, y, price in list(desk.repairs) + list(offers):
                told.setdefault((kind, x, y), []).append(price)
            repairs = tuple(sorted(way + (min(prices),) for way, prices in told.items()))
            self.same(with_repairs(desk, offers).told, (desk.kinds, desk.tools, repairs))


class HandExample(Case):
    def test_the_overview(self):
        desk = Desk((("mail", 3),), (SIGN, SEND), ((0, 1, 0, 1), (0, 2, 0, 3)))
        bought = with_repairs(desk, ((0, 2, 1, 2),))
        self.same(bought.repairs, ((0, 1, 0, 1), (0, 2, 0, 3), (0, 2, 1, 2)))


if __name__ == "__main__":
    unittest.main()
