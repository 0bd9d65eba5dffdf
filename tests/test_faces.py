"""[44], [45], [47]: what sorts of the seam come to, faces, what is safe beside them, joined faces."""

import collections
import itertools
import unittest

from lateno.desks import Desk
from lateno.errors import InvalidHouse, InvalidLots, InvalidSize, InvalidSort, InvalidWaits
from lateno.faces import comes_to, face_of, is_beside, join_faces, no_worse, order_of
from lateno.guards import serves
from lateno.houses import House, closed_lots, comes_with, join_houses
from house_samples import D, D_TOO, R_ALONE, T, U, by_hand, is_lost, order_again, pairs_behind, random_house, random_seam, random_waits
from samples import MAIL, Case, as_lists, is_tuples, nested, odd_values, spoilt
from test_houses import all_lots, wrong_lots

LOST = ("lost",)
RIGHT = ("right",)
FULL = ((0, 1), (0, 1, 2))


def come_to_again(house, waits, lots, sort):
    pairs = pairs_behind(house, waits, comes_with(house, lots), [sort])
    return LOST if is_lost(house, pairs) else tuple(sorted(pair for pair in pairs if pair[0] < house.many))


def face_again(house, waits):
    face = []
    for lots in closed_lots(house):
        sorts = [(kind, x, y) for kind, lot in enumerate(lots) for x in lot for y in lot if x != y]
        told = [come_to_again(house, waits, lots, sort) for sort in sorts]
        face.append((lots, tuple((sort, one if one == LOST else order_again(one)) for sort, one in zip(sorts, told))))
    return tuple(face)


def right_beside(house, waits, other, tool, others_waits):
    """Whether each No to the other's tool can be put right in the two joined."""
    joined = join_houses(house, other)
    ahead = len(house.desk.tools)
    lot = [("wait", one) for one in waits] + [("wait", one + ahead) for one in others_waits]
    return serves(joined.desk, (), tool + ahead, lot, RIGHT)


def no_worse_again(face, other):
    """[45] word by word."""
    here = {lots: dict(rows) for lots, rows in face}
    for lots, rows in other:
        if lots not in here:
            return False
        for sort, told in rows:
            if here[lots][sort] == LOST and told != LOST:
                return False
            if told != LOST and not set(here[lots][sort]) <= set(told):
                return False
    return True


def wrong_waits(house, value):
    """Told again: the place for which any value is refused as a lot of tools that wait, None for one."""
    if type(value) not in (list, tuple):
        return -1
    for at, one in enumerate(value):
        if type(one) is not int or not 0 <= one < len(house.desk.tools) or any(other >= one for other in value[:at]):
            return at
    return None


class ByHand(Case):
    def test_what_comes_of_m(self):
        self.same(comes_to(D, (), FULL, (0, 0, 1)), ((0, 0, 1), (1, 0, 1), (1, 1, 2)))
        self.same(comes_to(D_TOO, (), FULL, (0, 0, 1)), ((0, 0, 1), (1, 0, 1), (1, 0, 2), (1, 1, 2)))
        self.same(comes_to(R_ALONE, (), FULL, (0, 0, 1)), ((0, 0, 1), (1, 0, 2)))
        self.same(comes_to(house=D, waits=[1], lots=[[0, 1], [0, 1, 2]], sort=[0, 0, 1]), ((0, 0, 1), (1, 0, 1)))
        self.same(comes_to(D, (0, 1), FULL, (0, 0, 1)), ((0, 0, 1),))
        self.same(comes_to(D, (), FULL, (1, 0, 2)), ((1, 0, 2),))

    def test_the_order_is_the_same(self):
        order = ((0, 0, 1), (1, 0, 1), (1, 0, 2), (1, 1, 2))
        self.same(order_of(comes_to(D, (), FULL, (0, 0, 1))), order)
        self.same(dict(dict(face_of(D, ()))[FULL])[(0, 0, 1)], order)

    def test_houses_alike(self):
        self.same(face_of(D, ()), face_of(D_TOO, ()))
        self.assertNotEqual(face_of(R_ALONE, ()), face_of(D, ()))
        self.assertNotIn(((0,), (0,)), [lots for lots, _ in face_of(D, ())])
        self.assertIn(((0,), (0,)), [lots for lots, _ in face_of(R_ALONE, ())])
        self.same(no_worse(face_of(D, ()), face_of(D_TOO, ())), True)
        self.same(no_worse(face_of(D_TOO, ()), face_of(D, ())), True)
        self.same(no_worse(face=face_of(R_ALONE, ()), other=face_of(D, ())), True)
        self.same(no_worse(face=face_of(D, ()), other=face_of(R_ALONE, ())), False)

    def test_lost_ones(self):
        # box is turned by m, and nothing puts it right
        kinds = (("m", 2), ("q", 3), ("box", 2))
        house = House(Desk(kinds, (("mark", (0, 2), (((1, 0), (1, 1)),)), U), D.desk.repairs), 2)
        self.same(comes_to(house, (), FULL, (0, 0, 1)), LOST)
        self.same(comes_to(house, (0,), FULL, (0, 0, 1)), ((0, 0, 1), (1, 1, 2)))
        self.same(comes_to(house, (0, 1), FULL, (0, 0, 1)), ((0, 0, 1),))
        self.same(comes_to(house, (), FULL, (1, 0, 1)), ((1, 0, 1),))
        self.same(dict(dict(face_of(house, ()))[FULL])[(0, 1, 0)], LOST)
        bare = House(Desk((("m", 2),), (), ((0, 1, 0, 1),)), 1)
        self.same(face_of(bare, ()), (
            (((0,),), ()), (((0, 1),), (((0, 0, 1), LOST), ((0, 1, 0), ((0, 1, 0),)))),
        ))

    def test_through_own_kinds(self):
        # m turns a box, the box turns q; the box alone is put right
        kinds = (("m", 2), ("q", 3), ("box", 2))
        tools = (("mark", (0, 2), (((1, 0), (1, 1)),)), ("use", (2, 1), (((1, 0), (1, 2)),)), ("fill", (2,), (((0,), (1,)),)))
        house = House(Desk(kinds, tools, D.desk.repairs + ((2, 0, 1, 1), (2, 1, 0, 1))), 2)
        self.same(comes_to(house, (), FULL, (0, 0, 1)), ((0, 0, 1), (1, 0, 2)))
        self.same(comes_to(house, (), FULL, (0, 1, 0)), ((0, 1, 0), (1, 2, 0)))
        self.same(comes_to(house, (1,), FULL, (0, 1, 0)), ((0, 1, 0),))
        self.same([lots for lots, _ in face_of(house, ())],
                  sorted(lots for lots in all_lots(house) if 2 in lots[1]))

    def test_beside(self):
        # make begins with m's (1, 0); take tells by a note which q's are in a lot
        make = ("g", (0,), (((0,), (1,)),))
        kinds = (("m", 2), ("q", 3), ("note", 3))
        one_way, other_way = ((2, 2, 1, 1),), ((2, 1, 2, 1),)
        for lot, repairs, beside_d, beside_r in (
            ((1,), one_way, False, True), ((1,), other_way, False, True), ((1,), other_way + one_way, True, True),
            ((2,), one_way, False, False), ((2,), other_way, True, True), ((0,), one_way, True, True), ((0,), other_way, False, False),
        ):
            take = ("take", (1, 2), [((q, 0), (0, 1 if q in lot else 2)) for q in range(3)])
            partner = House(Desk(kinds, (make, take), D.desk.repairs + repairs), 2)
            self.same(is_beside(face_of(D, ()), partner, 0, ()), beside_d)
            self.same(is_beside(face_of(D_TOO, ()), partner, 0, ()), beside_d)
            self.same(is_beside(face=face_of(R_ALONE, ()), house=partner, tool=0, waits=[]), beside_r)
            self.same(is_beside(as_lists(face_of(D, ())), partner, 0, [1]), True)
            self.same([right_beside(D, (), partner, 0, ()), right_beside(R_ALONE, (), partner, 0, ())], [beside_d, beside_r])

    def test_a_tool_that_waits_for_itself(self):
        house = House(MAIL, 1)
        bare = House(Desk(MAIL.kinds, (), MAIL.repairs), 1)
        self.same(is_beside(face_of(bare, ()), house, 0, ()), False)
        self.same(is_beside(face_of(bare, ()), house, 0, (0,)), True)
        self.same(is_beside(face_of(bare, ()), house, 0, (1,)), True)
        self.same(right_beside(bare, (), house, 0, (0,)), True)
        # what the other house does counts as well: it signs
        signing = House(Desk(MAIL.kinds, (("seal",) + MAIL.tools[0][1:],), MAIL.repairs), 1)
        self.same(is_beside(face_of(signing, ()), house, 0, (0,)), False)
        self.same(is_beside(face_of(signing, (0,)), house, 0, (0,)), True)
        self.same(is_beside(face_of(signing, ()), house, 0, (0, 1)), True)


class Orders(Case):
    def test_order_of(self):
        self.same(order_of(()), ())
        self.same(order_of([[0, 1, 2], [0, 2, 3]]), ((0, 1, 2), (0, 1, 3), (0, 2, 3)))
        self.same(order_of(((0, 1, 2), (1, 2, 3), (0, 1, 2))), ((0, 1, 2), (1, 2, 3)))
        self.same(order_of(sorts=((0, 1, 2), (0, 2, 1))), ((0, 1, 2), (0, 2, 1)))
        self.same(order_of(((5, 12, 0), (5, 0, 7), (5, 7, 12))), tuple((5, x, y) for x in (0, 7, 12) for y in (0, 7, 12) if x != y))
        rng = self.rng(1)
        for _ in range(500):
            top = rng.choice([1, 2, 4, 12])
            sorts = [(rng.randint(0, 1),) + tuple(rng.sample(range(top + 1), 2)) for _ in range(rng.randint(0, 8))]
            self.same(order_of(sorts), order_again(sorts))

    def test_no_sorts(self):
        for value in (None, 0, "ab", True, MAIL):
            self.fails(InvalidSort, -1, order_of, value)
        for value in ((0, 1, 1), (0, 1), (0, 1, 2, 3), (0, True, 0), (False, 1, 2), (0, -1, 2), (-1, 0, 1), (0, 1, None), None, 0, "abc",
                      ("a", "b", "c"), nested(12), MAIL):
            self.fails(InvalidSort, 0, order_of, (value, None))
            self.fails(InvalidSort, 2, order_of, [(0, 1, 2), [0, 1, 2], value])


class Told(Case):
    def test_faces_against_telling_again(self):
        rng = self.rng(2)
        seen = collections.Counter()
        for _ in range(150):
            house = random_house(rng, random_seam(rng), "a", tools=rng.choice([2, 4, 7]))
            waits = random_waits(rng, house)
            face = face_of(house, waits)
            self.same(face, face_again(house, waits))
            for lots, rows in face:
                for sort, told in rows:
                    found = comes_to(house, waits, lots, sort)
                    self.same(found, come_to_again(house, waits, lots, sort))
                    seen["lost" if told == LOST else "wider" if told != found else len(found) > 1] += 1
        self.assertGreater(min(seen[key] for key in ("lost", "wider", True, False)), 30)

    def test_three_corners(self):
        rng = self.rng(3)
        for _ in range(60):
            house = random_house(rng, random_seam(rng), "a")
            for lots, rows in face_of(house, ()):
                told = {sort: comes_to(house, (), lots, sort) for sort, _ in rows}
                for (kind, x, y), found in told.items():
                    for h in lots[kind]:
                        if h in (x, y):
                            continue
                        one, other = told[(kind, x, h)], told[(kind, h, y)]
                        if found == LOST:
                            self.assertIn(LOST, (one, other))
                        elif LOST not in (one, other):
                            for k, u, v in found:
                                self.assertTrue(any((u == w or (k, u, w) in one) and (w == v or (k, w, v) in other) for w in lots[k]))

    def test_beside_against_the_joined_houses(self):
        rng = self.rng(4)
        seen = collections.Counter()
        for _ in range(700):
            seam = random_seam(rng)
            house, other = random_house(rng, seam, "a", 7), random_house(rng, seam, "b")
            waits = random_waits(rng, house, 0.2)
            face = face_of(house, waits)
            for tool in range(len(other.desk.tools)):
                others_waits = random_waits(rng, other)
                want = right_beside(house, waits, other, tool, others_waits)
                self.same(is_beside(face, other, tool, others_waits), want)
                seen[(want, tool in others_waits)] += 1
        self.assertGreater(min(seen[key] for key in itertools.product((True, False), repeat=2)), 50)

    def test_joined_faces(self):
        rng = self.rng(5)
        wider = 0
        for _ in range(150):
            seam = random_seam(rng)
            house, other = random_house(rng, seam, "a"), random_house(rng, seam, "b")
            waits, others_waits = random_waits(rng, house), random_waits(rng, other)
            face, others_face = face_of(house, waits), face_of(other, others_waits)
            joined = join_houses(house, other)
            both = waits + tuple(tool + len(house.desk.tools) for tool in others_waits)
            self.same(join_faces(face, others_face), face_of(joined, both))
            self.same(join_faces(as_lists(others_face), as_lists(face)), face_of(joined, both))
            self.same(join_faces([(lots, rows[::-1]) for lots, rows in face[::-1]], others_face), face_of(joined, both))
            wider += join_faces(face, others_face) not in (face, others_face)
        self.assertGreater(wider, 10)
        self.same(join_faces(face=face_of(D, ()), other=face_of(by_hand(), ())), face_of(D, ()))
        self.same(join_faces(face_of(by_hand(T), ()), face_of(by_hand(U), ())), face_of(D, ()))

    def test_no_worse(self):
        rng = self.rng(6)
        seen = collections.Counter()
        for _ in range(500):
            seam = random_seam(rng)
            house = random_house(rng, seam, "a")
            other = random_house(rng, seam, "b") if rng.random() < 0.4 else House(
                Desk(house.desk.kinds, house.desk.tools[:-1], house.desk.repairs), house.many)
            one, two = face_of(house, ()), face_of(other, ())
            for here, there in ((one, two), (two, one), (one, one)):
                self.same(no_worse(here, there), no_worse_again(here, there))
                self.same(no_worse(as_lists(here), as_lists(there)), no_worse_again(here, there))
            if no_worse(one, two) and no_worse(two, one):
                self.same(one, two)
            partner = random_house(rng, seam, "p")
            for tool in range(len(partner.desk.tools)):
                beside = [is_beside(face, partner, tool, ()) for face in (one, two)]
                if no_worse(one, two):
                    self.assertTrue(beside[0] or not beside[1])
                seen[(no_worse(one, two), no_worse(two, one), beside[0] == beside[1])] += 1
        self.assertGreater(min(seen[key] for key in ((False, True, False), (True, True, True), (False, False, False))), 3)


class Errors(Case):
    def test_houses_tools(self):
        face = face_of(D, ())
        for value in odd_values() + [D.desk, D.told]:
            if isinstance(value, House):
                continue
            self.fails(InvalidHouse, -1, comes_to, value, None, None, None)
            self.fails(InvalidHouse, -1, face_of, value, None)
            self.fails(InvalidHouse, -1, is_beside, face, value, None, None)
        for value in (2, -1, True, None, "t", (0,), 10 ** 30):
            self.fails(InvalidSize, "tool", is_beside, face, D, value, None)

    def test_waits(self):
        face = face_of(D, ())
        rng = self.rng(7)
        seen = 0
        for value in odd_values() + [(0, 2), (1, 0), [0, 0], (0, True)] + [spoilt(rng, (0, 1)) for _ in range(150)]:
            at = wrong_waits(D, value)
            if at is None:
                self.same(face_of(D, value), face_of(D, tuple(value)))
                continue
            seen += at > 0
            self.fails(InvalidWaits, at, comes_to, D, value, None, None)
            self.fails(InvalidWaits, at, face_of, D, value)
            self.fails(InvalidWaits, at, is_beside, face, D, 0, value)
        self.assertGreater(seen, 10)

    def test_lots_and_sorts(self):
        rng = self.rng(8)
        seen = collections.Counter()
        for value in odd_values() + all_lots(D) + [spoilt(rng, FULL) for _ in range(200)]:
            at = wrong_lots(D, value)
            if at is None and tuple(tuple(lot) for lot in value) not in closed_lots(D):
                at = -1
            if at is None:
                self.assertNotEqual(comes_to(D, (), value, (1, 0, 1)), None)
            else:
                self.fails(InvalidLots, at, comes_to, D, (), value, None)
            seen[at] += 1
        self.assertGreater(min(seen[at] for at in (None, -1, 0, 1, 2)), 1)
        for value in (None, 0, "abc", (), (0, 0), (0, 0, 1, 0), (2, 0, 1), (-1, 0, 1), (0, 0, 0), (0, 0, 2), (0, True, 0), (1, 0, 3), MAIL):
            self.fails(InvalidSort, -1, comes_to, D, (), FULL, value)
        # a state that does not stand in the lots, and a sort of an own kind
        house = House(Desk((("m", 2), ("box", 2)), (("fill", (1,), (((0,), (1,)),)),), ()), 1)
        self.fails(InvalidSort, -1, comes_to, house, (), ((0,),), (0, 0, 1))
        self.fails(InvalidSort, -1, comes_to, house, (), ((0, 1),), (1, 0, 1))
        self.same(comes_to(house, (), ((0, 1),), (0, 0, 1)), LOST)
        self.assertTrue(is_tuples(face_of(house, [0])))


if __name__ == "__main__":
    unittest.main()
