"""[46]: a partner that is safe beside just one of two houses."""

import collections
import unittest

from lateno.desks import Desk
from lateno.errors import InvalidDesk, InvalidHouse, InvalidSeam
from lateno.faces import face_of, is_beside
from lateno.houses import House, seam_of
from lateno.parting import parting, parting_holds
from house_samples import D, D_TOO, R_ALONE, by_hand, T, U, random_house, random_seam, random_waits
from samples import MAIL, Case, as_lists, odd_values
from test_faces import right_beside


def names(told):
    return {one[0] for one in told}


def is_partner(house, other, value):
    """Whether any value is a partner, a tool, waits and a side, as far as can be told without looking at what they do."""
    if type(value) is not tuple or len(value) != 4 or type(value[0]) is not House:
        return False
    partner, tool, waits, side = value
    if seam_of(partner) != seam_of(house):
        return False
    for one in (house, other):
        if names(partner.desk.kinds[partner.many:]) & names(one.desk.kinds) or names(partner.desk.tools) & names(one.desk.tools):
            return False
    many = len(partner.desk.tools)
    if type(tool) is not int or not 0 <= tool < many or type(waits) is not tuple or type(side) is not int or side not in (0, 1):
        return False
    return all(type(one) is int and 0 <= one < many for one in waits) and list(waits) == sorted(set(waits))


def parts_again(house, other, value):
    """[46] told again for any value."""
    if not is_partner(house, other, value):
        return False
    partner, tool, waits, side = value
    beside = [right_beside(one, (), partner, tool, waits) for one in (house, other)]
    return beside[side] and not beside[1 - side]


def spoilt_partners(rng, seam, value):
    """Values near a partner: other tools, waits, sides, and other partners."""
    partner, tool, waits, side = value
    desk = partner.desk
    many = len(desk.tools)
    found = [(partner, tool, waits, 1 - side), (partner, rng.randrange(many), waits, side), (partner, tool, random_waits(rng, partner), side),
             (partner, tool, (), side), (partner, tool, tuple(range(many)), side), (partner, many, waits, side), (partner, tool, (many,), side),
             (partner, tool, waits + waits[:1], side), (partner, tool, list(waits), side), [partner, tool, waits, side],
             (desk, tool, waits, side), (partner.told, tool, waits, side), (partner, True, waits, side), (partner, tool, waits, bool(side)),
             (partner, tool, waits, 2), (partner, tool, waits), (partner, tool, waits, side, side), (partner, None, waits, side)]
    at = rng.randrange(many)
    for tools in (desk.tools[:at] + desk.tools[at + 1:], desk.tools[::-1]):
        found.append((House(Desk(desk.kinds, tools, desk.repairs), partner.many), min(tool, max(0, len(tools) - 1)), (), side))
    name, roles, rows = desk.tools[at]
    if rows:
        turned = rows[:-1] + ((rows[-1][0], rows[0][1]),)
        found.append((House(Desk(desk.kinds, desk.tools[:at] + ((name, roles, turned),) + desk.tools[at + 1:], desk.repairs), partner.many), tool, waits, side))
    own = [repair for repair in desk.repairs if repair[0] < partner.many]
    found.append((House(Desk(desk.kinds, desk.tools, own), partner.many), tool, waits, side))
    found.append((House(Desk(desk.kinds, desk.tools, desk.repairs), len(desk.kinds)), tool, waits, side))
    return found + [(random_house(rng, seam, "p", 4), rng.randrange(2), (), rng.randrange(2)) for _ in range(3)]


def changed_house(rng, house, names_begin):
    """The house with the names of its own kinds and tools new, and one of its tools left out or turned."""
    desk = house.desk
    kinds = desk.kinds[:house.many] + tuple((names_begin + "kind", many) for _, many in desk.kinds[house.many:])
    tools = [(names_begin + "cdefghi"[at], roles, rows) for at, (_, roles, rows) in enumerate(desk.tools)]
    if tools and rng.random() < 0.8:
        at = rng.randrange(len(tools))
        name, roles, rows = tools[at]
        if rng.random() < 0.5 and rows:
            one = rng.randrange(len(rows))
            tools[at] = (name, roles, rows[:one] + rows[one + 1:])
        else:
            del tools[at]
    return House(Desk(kinds, tools, desk.repairs), house.many)


class ByHand(Case):
    def test_alike(self):
        self.same(parting(D, D_TOO), None)
        self.same(parting(house=D_TOO, other=D), None)
        self.same(parting(D, D), None)
        self.same([parting_holds(D, D_TOO, value) for value in (parting(D, R_ALONE), None)], [False, False])

    def test_a_house_that_never_brings_one_state(self):
        for house, other in ((D, R_ALONE), (R_ALONE, D), (D_TOO, R_ALONE)):
            value = parting(house, other)
            self.same(parts_again(house, other, value), True)
            self.same(parting_holds(house, other, value), True)
            self.same(parting_holds(house=other, other=house, value=value), False)
            self.same(parting_holds(other, house, value[:3] + (1 - value[3],)), True)
            self.same(is_beside(face_of(D_TOO if house == R_ALONE else other, ()), value[0], value[1], value[2]),
                      right_beside(D_TOO if house == R_ALONE else other, (), value[0], value[1], value[2]))

    def test_orders_and_lost_ones(self):
        # all states come, but what m comes to is unlike
        bring = tuple((name, (1,), [((q,), (state,)) for q in range(3)]) for name, state in (("one", 1), ("two", 2)))
        for tools, others in (((T,), (U,)), ((T, U), (T,)), ((), (T,)), ((T,), ())):
            house = by_hand(*(bring + tools))
            other = by_hand(*(bring + others))
            value = parting(house, other)
            self.same(parts_again(house, other, value), True)
            self.same(parting_holds(house, other, value), True)
            self.same(len(value[0].desk.kinds), 3)
            self.same(len(value[2]), 1)
        box = Desk((("m", 2), ("q", 3), ("box", 2)), (("mark", (0, 2), (((1, 0), (1, 1)),)),), D.desk.repairs)
        lost = House(box, 2)
        for house, other, side in ((lost, by_hand(), 1), (by_hand(), lost, 0)):
            value = parting(house, other)
            self.same(value[3], side)
            self.same(parts_again(house, other, value), True)
            self.same(parting_holds(house, other, value), True)

    def test_names_are_unlike(self):
        # the names that come first are taken
        kinds = (("m", 2), ("aa", 2), ("ab", 2))
        house = House(Desk(kinds, (("aa", (0,), (((0,), (1,)),)), ("ac", (1,), ())), ()), 1)
        other = House(Desk(kinds[:1] + (("ac", 2),), (("ab", (0,), (((1,), (0,)),)),), ()), 1)
        value = parting(house, other)
        self.same(parts_again(house, other, value), True)
        self.same(parting_holds(house, other, value), True)


class Told(Case):
    def test_against_the_joined_houses(self):
        rng = self.rng(1)
        seen = collections.Counter()
        for _ in range(800):
            seam = random_seam(rng)
            house = random_house(rng, seam, "a", rng.choice([2, 4, 7]))
            other = changed_house(rng, house, "b") if rng.random() < 0.7 else random_house(rng, seam, "b", 7)
            value = parting(house, other)
            alike = face_of(house, ()) == face_of(other, ())
            self.same(value is None, alike)
            if alike:
                seen["alike"] += 1
                partner = random_house(rng, seam, "p")
                for tool in range(len(partner.desk.tools)):
                    self.same(right_beside(house, (), partner, tool, ()), right_beside(other, (), partner, tool, ()))
                continue
            self.same(parts_again(house, other, value), True)
            self.same(parting_holds(house, other, value), True)
            partner = value[0]
            self.assertLessEqual(len(partner.desk.tools), 7)
            self.same([many for _, many in partner.desk.kinds[partner.many:]], [3])
            roles = [len(tool[1]) for tool in partner.desk.tools[:2]]
            seen["lots" if roles[0] == 2 else "order" if 2 in roles else "lost", value[3]] += 1
        self.assertEqual(len(seen), 7)
        self.assertGreater(min(seen.values()), 3)

    def test_spoilt_ones(self):
        rng = self.rng(2)
        seen = {True: 0, False: 0}
        for _ in range(120):
            seam = random_seam(rng)
            house = random_house(rng, seam, "a", 4)
            other = changed_house(rng, house, "b") if rng.random() < 0.7 else random_house(rng, seam, "b")
            value = parting(house, other)
            if value is None:
                continue
            for told in spoilt_partners(rng, seam, value):
                want = parts_again(house, other, told)
                self.same(parting_holds(house, other, told), want)
                seen[want] += 1
        self.assertGreater(min(seen.values()), 50)

    def test_any_value(self):
        for value in odd_values() + [(None,) * 4, (D, 0, (), 0), (MAIL, 0, (), 0), ((), 0, (), 0)]:
            self.same(parting_holds(D, R_ALONE, value), False)
        partner, tool, waits, side = parting(D, R_ALONE)
        for value in odd_values():
            for told in ((value, tool, waits, side), (partner, value, waits, side), (partner, tool, value, side), (partner, tool, waits, value)):
                self.same(parting_holds(D, R_ALONE, told), parts_again(D, R_ALONE, told))

    def test_names_that_are_taken(self):
        partner, tool, waits, side = parting(D, R_ALONE)
        desk = partner.desk
        for at in range(len(desk.tools)):
            tools = desk.tools[:at] + (("r",) + desk.tools[at][1:],) + desk.tools[at + 1:]
            self.same(parting_holds(D, R_ALONE, (House(Desk(desk.kinds, tools, desk.repairs), 2), tool, waits, side)), False)
            self.same(parting_holds(D, by_hand(), (House(Desk(desk.kinds, tools, desk.repairs), 2), tool, waits, side)),
                      parts_again(D, by_hand(), (House(Desk(desk.kinds, tools, desk.repairs), 2), tool, waits, side)))
        owned = House(Desk(D.desk.kinds + (("box", 2),), D.desk.tools, D.desk.repairs), 2)
        boxed = House(Desk(desk.kinds[:2] + (("box", 3),), desk.tools, desk.repairs), 2)
        self.same(parting_holds(D, R_ALONE, (boxed, tool, waits, side)), True)
        self.same(parting_holds(owned, R_ALONE, (boxed, tool, waits, side)), False)
        self.same(parting_holds(owned, R_ALONE, (partner, tool, waits, side)), True)


class Errors(Case):
    def test_houses_then_seams(self):
        unlike = House(Desk((("m", 2), ("q", 3)), (), D.desk.repairs[1:]), 2)
        for value in odd_values() + [D.desk, D.told]:
            if isinstance(value, House):
                continue
            self.fails(InvalidHouse, -1, parting, value, unlike)
            self.fails(InvalidHouse, -1, parting, D, value)
            self.fails(InvalidHouse, -1, parting_holds, value, unlike, None)
            self.fails(InvalidHouse, -1, parting_holds, D, value, None)
        for other in (unlike, House(D.desk, 1), House(Desk((("m", 2), ("x", 3)), (), D.desk.repairs), 2)):
            self.fails(InvalidSeam, "seam", parting, D, other)
            self.fails(InvalidSeam, "seam", parting, other, D)
            self.fails(InvalidSeam, "seam", parting_holds, other, D, None)
        # alike names of own kinds and tools are no matter
        self.same(parting(D, by_hand()) is None, False)

    def test_a_partner_that_is_too_large(self):
        kinds = tuple((letter, 2) for letter in "abcdef")
        house = House(Desk(kinds, (("set", (0,), (((0,), (1,)),)),), ()), 6)
        other = House(Desk(kinds, (), ()), 6)
        self.fails(InvalidDesk, ("kinds", -1), parting, house, other)
        self.same(parting(house, House(house.desk, 6)), None)

    def test_a_partner_that_is_too_large_to_be_joined(self):
        # houses of six kinds: the partner's notes are a seventh
        kinds = tuple((letter, 2) for letter in "abcdef")
        house = House(Desk(kinds, (("set", (0,), (((0,), (1,)),)),), ()), 1)
        other = House(Desk(kinds, (), ()), 1)
        small = House(Desk(kinds[:1], (), ()), 1)
        value = parting(house, other)
        self.assertIsInstance(value[0], House)
        self.fails(InvalidDesk, ("kinds", -1), parting_holds, house, other, value)
        self.fails(InvalidDesk, ("kinds", -1), parting_holds, house, small, value)
        self.same(parting_holds(House(Desk(kinds[:1], house.desk.tools, ()), 1), small, value), True)
        # what makes the value none comes first
        self.same(parting_holds(house, other, value[:3] + (1 - value[3],)), False)
        self.same(parting_holds(house, other, value[:3] + (2,)), False)
        self.same(parting_holds(house, other, (value[0], 9) + value[2:]), False)
        self.same(parting_holds(house, other, list(value)), False)
        self.same(as_lists(parting_holds(house, other, None)), False)
        # twenty tools, and the partner's
        many = tuple(("t" + letter, (0,), (((0,), (1,)),)) for letter in "abcdefghijklmnopqrst")
        large = House(Desk(kinds[:1], many, ()), 1)
        value = parting(large, small)
        self.fails(InvalidDesk, ("tools", -1), parting_holds, large, small, value)
        self.fails(InvalidDesk, ("tools", -1), parting_holds, small, large, value[:3] + (1 - value[3],))


if __name__ == "__main__":
    unittest.main()
