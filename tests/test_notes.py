"""[21]: notes of what things are, tools that look, tools that lean on notes."""

import unittest

from lateno.desks import Desk
from lateno.errors import InvalidDesk, InvalidLot, InvalidSize
from lateno.notes import leaning, noted
from lateno.tables import worst_of
from samples import COPY, MAIL, Case, as_lists, odd_values, random_desk, spoilt

NOTED = noted(MAIL, 0, "note", "look")
ACT = Desk(
    (("a", 2), ("b", 2), ("note", 4)),
    (("set", (0,), (((0,), (1,)),)), ("act", (1,), (((0,), (1,)), ((1,), (1,)))),
     ("look", (0, 2), (((0, 0), (0, 1)), ((1, 0), (1, 2))))),
    ((0, 0, 1, 1), (0, 1, 0, 1), (1, 0, 1, 1), (1, 1, 0, 1)) + tuple((2, x, y, 1) for x in range(4) for y in range(4) if x != y),
)


class Noted(Case):
    def test_part_by_part(self):
        self.same(NOTED.kinds, (("mail", 3), ("note", 5)))
        self.same(NOTED.tools, MAIL.tools + (("look", (0, 1), (((0, 0), (0, 1)), ((1, 0), (1, 2)), ((2, 0), (2, 3)))),))
        self.same(NOTED.repairs, MAIL.repairs)
        self.assertIsInstance(NOTED, Desk)
        self.same(noted(desk=COPY, kind=0, note="n", look="l").told, (
            (("mail", 2), ("n", 4)), COPY.tools + (("l", (0, 1), (((0, 0), (0, 1)), ((1, 0), (1, 2)))),), ()))
        self.same(MAIL.kinds, (("mail", 3),))

    def test_of_a_kind_further_on_and_of_one_state(self):
        desk = Desk((("a", 6), ("b", 1), ("c", 4)), (), ((2, 0, 1, 1),))
        self.same(noted(desk, 1, "n", "l").kinds, desk.kinds + (("n", 3),))
        self.same(noted(desk, 1, "n", "l").tools, (("l", (1, 3), (((0, 0), (0, 1)),)),))
        self.same(noted(desk, 2, "n", "l").kinds, desk.kinds + (("n", 6),))
        self.same(noted(desk, 2, "n", "l").tools[0][2][3], ((3, 0), (3, 4)))
        self.same(noted(desk, 2, "n", "l").repairs, ((2, 0, 1, 1),))

    def test_which_kinds(self):
        desk = Desk((("a", 5), ("b", 4), ("c", 6)), (), ())
        for value in odd_values() + [0, 2, 3, -1]:
            self.fails(InvalidSize, "kind", noted, desk, value, None, None) if value != 1 or value is True else None
        self.assertIsInstance(noted(desk, 1, "n", "l"), Desk)

    def test_names(self):
        for name in odd_values() + ["A", "abcdefghi", "a b", "n1", "mail"]:
            if name in ("a", "ab"):
                continue
            self.fails(InvalidDesk, ("kinds", 1), noted, MAIL, 0, name, None)
        for name in odd_values() + ["sign", "send", "Look", "lookabcde"]:
            if name in ("a", "ab", "mail"):
                continue
            self.fails(InvalidDesk, ("tools", 2), noted, MAIL, 0, "note", name)
        # a kind and a tool may have one name
        self.same(noted(MAIL, 0, "sign", "mail").tools[2][0], "mail")

    def test_too_many(self):
        six = Desk([(name, 2) for name in "abcdef"], (), ())
        self.fails(InvalidDesk, ("kinds", -1), noted, six, 0, None, None)
        self.fails(InvalidSize, "kind", noted, six, 6, None, None)
        twenty = Desk((("a", 2),), [("t" + letter, (0,), ()) for letter in "abcdefghijklmnopqrst"], ())
        self.fails(InvalidDesk, ("tools", -1), noted, twenty, 0, "n", None)
        self.fails(InvalidDesk, ("kinds", 1), noted, twenty, 0, "a", None)


class Leaning(Case):
    def test_kept(self):
        desk = leaning(NOTED, 1, 1, (2, 3), False)
        self.same(desk.kinds, NOTED.kinds)
        self.same(desk.tools[1], ("send", (0, 1), (((1, 2), (2, 2)), ((1, 3), (2, 3)))))
        self.same((desk.tools[0], desk.tools[2], desk.repairs), (NOTED.tools[0], NOTED.tools[2], NOTED.repairs))

    def test_eaten(self):
        self.same(leaning(NOTED, 1, 1, [2, 3], True).tools[1], ("send", (0, 1), (((1, 2), (2, 4)), ((1, 3), (2, 4)))))
        self.same(leaning(desk=NOTED, tool=0, note=1, lets=(1,), eats=True).tools[0], ("sign", (0, 1), (((0, 1), (1, 4)),)))

    def test_more_rows_and_roles(self):
        desk = leaning(ACT, 1, 2, (1, 2), False)
        self.same(desk.tools[1], ("act", (1, 2), (((0, 1), (1, 1)), ((0, 2), (1, 2)), ((1, 1), (1, 1)), ((1, 2), (1, 2)))))
        self.same(leaning(ACT, 2, 2, (2,), True).tools[2],
                  ("look", (0, 2, 2), (((0, 0, 2), (0, 1, 3)), ((1, 0, 2), (1, 2, 3)))))
        self.same(leaning(MAIL, 0, 0, (1,), True).tools[0], ("sign", (0, 0), (((0, 1), (1, 2)),)))
        none = Desk((("a", 3),), (("none", (0,), ()),), ())
        self.same(leaning(none, 0, 0, (1,), True).tools, (("none", (0, 0), ()),))

    def test_tools(self):
        desk = Desk((("a", 3),), (("three", (0, 0, 0), ()), ("two", (0, 0), ())), ())
        for value in odd_values() + [0, 2, -1]:
            self.fails(InvalidSize, "tool", leaning, desk, value, None, None, None) if value != 1 or value is True else None
        self.assertIsInstance(leaning(desk, 1, 0, (1,), True), Desk)

    def test_notes(self):
        desk = Desk((("a", 2), ("b", 3), ("c", 1)), (("t", (0,), ()),), ())
        for value in odd_values() + [0, 2, 3, -1]:
            self.fails(InvalidSize, "note", leaning, desk, 0, value, None, None) if value != 1 or value is True else None
        self.assertIsInstance(leaning(desk, 0, 1, (1,), True), Desk)

    def test_lots(self):
        for value in (None, 0, True, "ab", MAIL, (), []):
            self.fails(InvalidLot, -1, leaning, NOTED, 0, 1, value, None)
        for value in (0, 4, 5, -1, True, "2", None, (2,), 1, MAIL):
            self.fails(InvalidLot, 1, leaning, NOTED, 0, 1, (1, value, None), None)
        self.fails(InvalidLot, 0, leaning, NOTED, 0, 1, (0, 1), None)
        self.fails(InvalidLot, 2, leaning, NOTED, 0, 1, [1, 3, 2], None)
        self.fails(InvalidLot, 1, leaning, MAIL, 0, 0, (1, 2), None)
        rng = self.rng(1)
        for value in odd_values() + [spoilt(rng, rng.choice([(1, 2, 3), (2, 3), [1]])) for _ in range(400)]:
            at = None
            if type(value) not in (list, tuple) or not value:
                at = -1
            else:
                for place, one in enumerate(value):
                    if type(one) is not int or not 1 <= one <= 3 or any(other >= one for other in value[:place]):
                        at = place
                        break
            if at is None:
                self.assertIsInstance(leaning(NOTED, 0, 1, value, True), Desk)
            else:
                self.fails(InvalidLot, at, leaning, NOTED, 0, 1, value, None)

    def test_eats(self):
        for value in (None, 0, 1, "True", (), (True,), MAIL):
            self.fails(InvalidSize, "eats", leaning, NOTED, 0, 1, (1,), value)

    def test_arguments_stay(self):
        lets = [1, 2]
        self.same(leaning(NOTED, 0, 1, lets, True).told, leaning(NOTED, 0, 1, (1, 2), True).told)
        self.assertEqual(lets, [1, 2])


class Prices(Case):
    def test_a_kept_note_has_no_price_an_eaten_one_has(self):
        self.same(worst_of(leaning(ACT, 1, 2, (2,), False), 0, ("price",)), None)
        # what is apart can be read again and again, but a No to one look acts once here and once there, at most
        self.same(worst_of(leaning(ACT, 1, 2, (2,), True), 0, ("price",)), None)
        self.same(worst_of(leaning(ACT, 1, 2, (2,), True), 2, ("otherwise", (1,))), 2)
        self.same(worst_of(leaning(ACT, 1, 2, (2,), False), 2, ("otherwise", (1,))), None)

    def test_all_desks_are_told_as_they_stand(self):
        rng = self.rng(2)
        for _ in range(100):
            desk = random_desk(rng, kinds=3, states=4)
            kind = rng.randrange(len(desk.kinds))
            many = desk.kinds[kind][1]
            found = noted(desk, kind, "n", "l")
            self.same(found.told, (desk.kinds + (("n", many + 2),), desk.tools + (
                ("l", (kind, len(desk.kinds)), tuple(((x, 0), (x, x + 1)) for x in range(many))),), desk.repairs))
            lets = tuple(state for state in range(1, many + 1) if rng.random() < 0.5) or (1,)
            eats = rng.random() < 0.5
            tool = rng.randrange(len(desk.tools))
            name, roles, rows = desk.tools[tool]
            leant = leaning(found, tool, len(desk.kinds), as_lists(lets), eats)
            want = tuple(sorted((before + (v,), behind + (many + 1 if eats else v,)) for before, behind in rows for v in lets))
            self.same(leant.tools[tool], (name, roles + (len(desk.kinds),), want))
            self.same(leant.tools[:tool] + leant.tools[tool + 1:], found.tools[:tool] + found.tools[tool + 1:])


if __name__ == "__main__":
    unittest.main()
