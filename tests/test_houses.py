"""[41], [42]: houses, joined houses, and what comes in them."""

import itertools
import unittest

from lateno.desks import Desk
from lateno.errors import InvalidDesk, InvalidHouse, InvalidLots, InvalidSeam
from lateno.houses import House, closed_lots, comes_with, join_houses, seam_of
from lateno.reach import what_comes
from samples import MAIL, Case, as_lists, is_tuples, nested, odd_values, random_repairs, spoilt

SEAM = (("m", 2), ("q", 3))
ONE = House(Desk(
    SEAM + (("box", 2),),
    (("put", (0, 2), (((0, 0), (1, 1)),)), ("sort", (1, 0), (((0, 1), (2, 1)), ((1, 0), (0, 0))))),
    ((0, 1, 0, 2), (1, 2, 0, 3), (2, 1, 0, 1)),
), 2)
TWO = House(Desk(
    SEAM + (("cup", 4), ("jar", 2)),
    (("pour", (2, 3, 1), (((0, 0, 2), (1, 1, 1)),)), ("fill", (3,), (((1,), (0,)),))),
    ((0, 1, 0, 2), (1, 2, 0, 3), (2, 0, 1, 4), (3, 0, 1, 5)),
), 2)


def small_house(rng, names="ab", seam=None):
    """A house with a small seam, none or one own kind; kinds' and tools' names begin so."""
    if seam is None:
        manys = rng.choice([(2,), (3,), (4,), (2, 2), (2, 3), (1, 3), (5,)])
        seam = tuple(("s" + "xy"[at], many) for at, many in enumerate(manys))
    own = ((names + "own", 2),) if rng.random() < 0.6 else ()
    kinds = seam + own
    tools = []
    for at in range(rng.randint(0, 3)):
        roles = tuple(rng.randrange(len(kinds)) for _ in range(rng.randint(1, 2)))
        befores = itertools.product(*[range(kinds[kind][1]) for kind in roles])
        rows = [(before, tuple(rng.randrange(kinds[kind][1]) for kind in roles)) for before in befores if rng.random() < 0.25]
        tools.append((names + "cde"[at], roles, rows))
    repairs = ((0, 1, 0, 1),) if seam[0][1] > 1 else ()
    if own:
        repairs += tuple((len(seam), x, y, p) for _, x, y, p in random_repairs(rng, (2,)))
    return House(Desk(kinds, tools, repairs), len(seam))


def comes_again(house, lots):
    """What comes with the lots, told again."""
    marked = {(kind, state) for kind, lot in enumerate(lots) for state in lot}
    marked |= {(kind, 0) for kind in range(len(house.desk.kinds))}
    for _ in range(40):
        for _, roles, rows in house.desk.tools:
            for before, behind in rows:
                if set(zip(roles, before)) <= marked:
                    marked |= set(zip(roles, behind))
    return tuple(tuple(sorted(state for one, state in marked if one == kind)) for kind in range(len(house.desk.kinds)))


def all_lots(house):
    """All lots of a house's seam."""
    told = []
    for _, many in house.desk.kinds[:house.many]:
        rest = range(1, many)
        told.append([(0,) + lot for size in range(many) for lot in itertools.combinations(rest, size)])
    return [lots for lots in itertools.product(*told)]


def wrong_lots(house, value):
    """Told again: the first wrong place of what is no lots of the seam, None for such."""
    if type(value) not in (list, tuple):
        return -1
    for kind, (_, many) in enumerate(house.desk.kinds[:house.many]):
        if kind >= len(value) or type(value[kind]) not in (list, tuple):
            return kind
        lot = value[kind]
        if any(type(state) is not int or state not in range(many) for state in lot) or list(lot) != sorted(set(lot)) or 0 not in lot:
            return kind
    return house.many if len(value) > house.many else None


class Houses(Case):
    def test_fields(self):
        for many in (1, 2, 3):
            house = House(ONE.desk, many)
            self.assertIs(house.desk, ONE.desk)
            self.same(house.many, many)
            self.same(house.told, (ONE.desk.told, many))
        self.same(House(desk=MAIL, many=1).told, (MAIL.told, 1))

    def test_no_house(self):
        for many in (0, -1, 4, True, False, None, "1", (1,), MAIL, 10 ** 30):
            self.fails(InvalidHouse, -1, House, ONE.desk, many)
        for desk in odd_values() + [ONE, ONE.desk.told]:
            if desk is not MAIL:
                self.fails(InvalidHouse, -1, House, desk, 1)

    def test_what_is_passed_for_a_house(self):
        for value in odd_values() + [ONE.desk, ONE.told]:
            if isinstance(value, House):
                continue
            self.fails(InvalidHouse, -1, seam_of, value)
            self.fails(InvalidHouse, -1, join_houses, value, ONE)
            self.fails(InvalidHouse, -1, join_houses, ONE, value)
            self.fails(InvalidHouse, -1, comes_with, value, None)
            self.fails(InvalidHouse, -1, closed_lots, value)

    def test_seams(self):
        self.same(seam_of(ONE), (SEAM, ((0, 1, 0, 2), (1, 2, 0, 3))))
        self.same(seam_of(House(ONE.desk, 1)), (SEAM[:1], ((0, 1, 0, 2),)))
        self.same(seam_of(house=House(ONE.desk, 3)), (ONE.desk.kinds, ONE.desk.repairs))


class Joined(Case):
    def test_by_hand(self):
        house = join_houses(ONE, TWO)
        self.assertIsInstance(house, House)
        self.same(house.told, ((
            (("m", 2), ("q", 3), ("box", 2), ("cup", 4), ("jar", 2)),
            (("put", (0, 2), (((0, 0), (1, 1)),)), ("sort", (1, 0), (((0, 1), (2, 1)), ((1, 0), (0, 0)))),
             ("pour", (3, 4, 1), (((0, 0, 2), (1, 1, 1)),)), ("fill", (4,), (((1,), (0,)),))),
            ((0, 1, 0, 2), (1, 2, 0, 3), (2, 1, 0, 1), (3, 0, 1, 4), (4, 0, 1, 5)),
        ), 2))
        other = join_houses(house=TWO, other=ONE)
        self.same(other.desk.kinds, (("m", 2), ("q", 3), ("cup", 4), ("jar", 2), ("box", 2)))
        self.same([(tool[0], tool[1]) for tool in other.desk.tools], [("pour", (2, 3, 1)), ("fill", (3,)), ("put", (0, 4)), ("sort", (1, 0))])
        self.same(other.desk.repairs, ((0, 1, 0, 2), (1, 2, 0, 3), (2, 0, 1, 4), (3, 0, 1, 5), (4, 1, 0, 1)))
        self.same((ONE.desk.tools[0][1], TWO.desk.tools[0][1]), ((0, 2), (2, 3, 1)))

    def test_a_house_without_anything_of_its_own(self):
        bare = House(Desk(SEAM, (), ((0, 1, 0, 2), (1, 2, 0, 3))), 2)
        self.same(join_houses(ONE, bare).told, ONE.told)
        self.same(join_houses(bare, ONE).told, ONE.told)
        self.same(join_houses(bare, bare).told, bare.told)

    def test_seams_that_are_unlike(self):
        for kinds, repairs, many in (
            ((("m", 2), ("x", 3)), ((0, 1, 0, 2), (1, 2, 0, 3)), 2), ((("m", 2), ("q", 4)), ((0, 1, 0, 2), (1, 2, 0, 3)), 2),
            (SEAM, ((0, 1, 0, 2), (1, 2, 0, 4)), 2), (SEAM, ((0, 1, 0, 2),), 2), (SEAM, ((0, 1, 0, 2), (1, 2, 0, 3), (1, 2, 1, 1)), 2),
            (SEAM, ((0, 1, 0, 2), (1, 2, 0, 3)), 1), ((("q", 3), ("m", 2)), ((0, 2, 0, 3), (1, 1, 0, 2)), 2),
        ):
            other = House(Desk(kinds + (("box", 2),), ONE.desk.tools[:0], repairs), many)
            self.fails(InvalidSeam, "seam", join_houses, ONE, other)
            self.fails(InvalidSeam, "seam", join_houses, other, ONE)

    def test_names_that_are_alike(self):
        repairs = ((0, 1, 0, 2), (1, 2, 0, 3))
        kind = House(Desk(SEAM + (("x", 1), ("box", 2)), (("sort", (0,), ()),), repairs), 2)
        tool = House(Desk(SEAM + (("x", 1),), (("a", (0,), ()), ("sort", (0,), ())), repairs), 2)
        free = House(Desk(SEAM + (("put", 1), ("sort", 2)), (("box", (0,), ()), ("m", (0,), ())), repairs), 2)
        for one, two in ((ONE, kind), (kind, ONE)):
            self.fails(InvalidSeam, "kinds", join_houses, one, two)
        for one, two in ((ONE, tool), (tool, ONE)):
            self.fails(InvalidSeam, "tools", join_houses, one, two)
        self.same(join_houses(ONE, free).desk.kinds[2:], (("box", 2), ("put", 1), ("sort", 2)))
        self.fails(InvalidSeam, "kinds", join_houses, ONE, ONE)

    def test_a_joined_desk_that_is_too_large(self):
        repairs = ((0, 1, 0, 2), (1, 2, 0, 3))
        three = House(Desk(SEAM + (("x", 1), ("y", 1), ("z", 1)), (), repairs), 2)
        four = House(Desk(SEAM + (("x", 1), ("y", 1), ("z", 1), ("w", 1)), (), repairs), 2)
        self.same(len(join_houses(ONE, three).desk.kinds), 6)
        self.fails(InvalidDesk, ("kinds", -1), join_houses, ONE, four)
        eighteen = [("t" + letter, (0,), ()) for letter in "abcdefghijklmnopqr"]
        many = House(Desk(SEAM, eighteen, repairs), 2)
        more = House(Desk(SEAM + (("x", 1), ("y", 1), ("z", 1), ("w", 1)), eighteen + [("u", (0,), ())], repairs), 2)
        self.same(len(join_houses(ONE, many).desk.tools), 20)
        self.fails(InvalidDesk, ("kinds", -1), join_houses, ONE, more)
        self.fails(InvalidDesk, ("tools", -1), join_houses, ONE, House(Desk(SEAM, eighteen + [("u", (0,), ())], repairs), 2))

    def test_random_houses(self):
        rng = self.rng(1)
        for _ in range(100):
            one = small_house(rng, "a")
            two = small_house(rng, "b", one.desk.kinds[:one.many])
            joined, many = join_houses(one, two), one.many
            self.same(joined.many, many)
            self.same(joined.desk.kinds, one.desk.kinds + two.desk.kinds[many:])
            names = [kind[0] for kind in joined.desk.kinds]
            for (name, roles, rows), house in zip(joined.desk.tools, [one] * len(one.desk.tools) + [two] * len(two.desk.tools)):
                own = next(tool for tool in house.desk.tools if tool[0] == name)
                self.same([names[kind] for kind in roles], [house.desk.kinds[kind][0] for kind in own[1]])
                self.same(rows, own[2])
            told = {(names[k], x, y, p) for k, x, y, p in joined.desk.repairs}
            want = {(house.desk.kinds[k][0], x, y, p) for house in (one, two) for k, x, y, p in house.desk.repairs}
            self.assertEqual(told, want)
            self.assertEqual(list(joined.desk.repairs), sorted(set(joined.desk.repairs)))
            self.same(seam_of(joined), seam_of(one))


class Lots(Case):
    def test_by_hand(self):
        self.same(comes_with(ONE, ((0,), (0,))), ((0, 1), (0, 2), (0, 1)))
        self.same(comes_with(ONE, [[0, 1], [0, 1]]), ((0, 1), (0, 1, 2), (0, 1)))
        self.same(comes_with(house=TWO, lots=((0,), (0,))), ((0,), (0,), (0,), (0,)))
        self.same(comes_with(TWO, ((0,), (0, 2))), ((0,), (0, 1, 2), (0, 1), (0, 1)))
        self.same(closed_lots(ONE), (((0, 1), (0, 1, 2)), ((0, 1), (0, 2))))
        self.same(closed_lots(house=TWO), (
            ((0,), (0,)), ((0,), (0, 1)), ((0,), (0, 1, 2)), ((0, 1), (0,)), ((0, 1), (0, 1)), ((0, 1), (0, 1, 2)),
        ))

    def test_against_telling_again(self):
        rng = self.rng(2)
        for _ in range(150):
            house = small_house(rng)
            closed = []
            for lots in all_lots(house):
                want = comes_again(house, lots)
                self.same(comes_with(house, lots), want)
                self.same(comes_with(house, as_lists(lots)), want)
                if want[:house.many] == lots:
                    closed.append(lots)
            self.same(closed_lots(house), tuple(sorted(closed)))
            self.assertTrue(is_tuples(closed_lots(house)))

    def test_what_comes_in_joined_houses(self):
        rng = self.rng(3)
        for _ in range(150):
            one = small_house(rng, "a")
            two = small_house(rng, "b", one.desk.kinds[:one.many])
            both = [lots for lots in closed_lots(one) if lots in closed_lots(two)]
            least = [lots for lots in both if all(within(lots, other) for other in both)]
            self.same(len(least), 1)
            found = what_comes(join_houses(one, two).desk)
            self.same(found[:one.many], least[0])
            self.same(found, comes_with(one, least[0]) + comes_with(two, least[0])[one.many:])

    def wrong(self, at, value, house=ONE):
        self.fails(InvalidLots, at, comes_with, house, value)

    def test_wrong_lots(self):
        for value in (None, 3, True, "00", MAIL, {}):
            self.wrong(-1, value)
        self.wrong(0, ())
        self.wrong(1, ((0,),))
        self.wrong(2, ((0,), (0,), (0,)))
        self.wrong(2, [[0], [0], None])
        self.wrong(2, ((0, 1), (0, 1, 2), (0, 1), (0,)))
        for value in (None, 0, "0", (), (1,), (1, 2), (0, 3), (0, -1), (-1, 0), (0, 2, 1), (0, 0), (0, 1, 1), (False, 1), (0, True), (0, "1"),
                      (0, None), ((0,),), MAIL, (MAIL,), nested(11)):
            self.wrong(1, ((0,), value))
            self.wrong(1, [[0, 1], value, None])
            self.wrong(0, (value if value != (0, 2, 1) else None, None))

    def test_any_value_and_spoilt_lots(self):
        rng = self.rng(4)
        values = odd_values() + [(value, (0,)) for value in odd_values()] + [((0,), value) for value in odd_values()]
        values += [spoilt(rng, rng.choice(all_lots(ONE))) for _ in range(1000)]
        for value in values:
            at = wrong_lots(ONE, value)
            if at is None:
                self.same(comes_with(ONE, value), comes_again(ONE, value))
            else:
                self.wrong(at, value)

    def test_lots_stay(self):
        lots = [[0, 1], [0]]
        comes_with(ONE, lots)
        self.assertEqual(lots, [[0, 1], [0]])


def within(lots, others):
    return all(set(lot) <= set(other) for lot, other in zip(lots, others))


if __name__ == "__main__":
    unittest.main()
