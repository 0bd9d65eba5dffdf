"""[11], [12]: struck tries, twins and the worlds of lots; with [10], so far as it speaks of struck tries."""

import itertools
import unittest

from lateno.errors import InvalidHistory, InvalidIndex, InvalidStruck
from lateno.twins import apart, both, less, lot_worlds, need_struck, otherwise, trail, twin_behind, unlike_things
from lateno.worlds import normal_history, outcomes, world_behind, worlds_along
from samples import MAIL, Case, as_lists, is_tuples, nested, odd_values, random_desk, random_history, spoilt

# signed, sent, tried to be signed again; another one signed
HISTORY = ((0, 0), ((0, (0,)), (1, (0,)), (0, (0,)), (0, (1,))))
TAKES_STRUCK = (less, twin_behind, both, apart, otherwise, lot_worlds)


def wrong_lot(value, many):
    """Told again: the first place of what is no lot of numbers below many, None for a lot."""
    if type(value) not in (list, tuple):
        return -1
    for at, one in enumerate(value):
        if type(one) is not int or one not in range(many) or (at > 0 and one <= value[at - 1]):
            return at
    return None


def random_lot(rng, many, most=None):
    told = [one for one in range(many) if rng.random() < 0.4]
    return tuple(told if most is None else sorted(rng.sample(told, min(most, len(told)))))


class Struck(Case):
    def test_right_lots(self):
        for value in ((), [], (0,), [3], (0, 2, 3), [0, 1, 2, 3]):
            self.same(need_struck(HISTORY, value), tuple(value))
        self.same(need_struck(history=HISTORY, value=[1]), (1,))

    def test_wrong_lots(self):
        for value in (None, 0, True, "0", MAIL, {}):
            self.wrong(-1, value)
        for value in (None, True, False, -1, 4, "2", (2,), [], MAIL, 1, 0, nested(11)):
            self.wrong(1, (1, value))
            self.wrong(1, [1, value, None])
        self.wrong(0, (4,))
        self.wrong(2, (0, 2, 2, 3))
        self.wrong(2, (0, 2, 1, 3))

    def wrong(self, at, value):
        self.fails(InvalidStruck, at, need_struck, HISTORY, value)
        for call in TAKES_STRUCK:
            self.fails(InvalidStruck, at, call, MAIL, HISTORY, value)

    def test_any_value_and_spoilt_lots(self):
        rng = self.rng(1)
        values = odd_values() + [(value,) for value in odd_values()] + [(0, value) for value in odd_values()]
        values += [spoilt(rng, random_lot(rng, 4)) for _ in range(1000)]
        for value in values:
            at = wrong_lot(value, 4)
            if at is None:
                self.same(need_struck(HISTORY, value), tuple(value))
            else:
                self.wrong(at, value)

    def test_wrong_histories_come_first(self):
        for call in TAKES_STRUCK + (trail,):
            self.fails(InvalidHistory, -1, call, MAIL, None, None)
            self.fails(InvalidHistory, 1, call, MAIL, ((0,), ((0, (0,)), None)), None)


class Twins(Case):
    def test_by_hand(self):
        self.same(less(MAIL, HISTORY, (0,)), ((0, 0), HISTORY[1][1:]))
        self.same(less(MAIL, as_lists(HISTORY), [1, 3]), ((0, 0), (HISTORY[1][0], HISTORY[1][2])))
        self.same(less(MAIL, HISTORY, ()), HISTORY)
        self.same(twin_behind(MAIL, HISTORY, (0,)), (1, 1))
        self.same(twin_behind(MAIL, HISTORY, (0, 2, 3)), (0, 0))
        self.same(both(MAIL, HISTORY, (0,)), (
            (True, None, (1, 0), (0, 0)), (True, False, (2, 0), (0, 0)), (False, True, (2, 0), (1, 0)), (True, True, (2, 1), (1, 1)),
        ))
        self.same(apart(MAIL, HISTORY, (0,)), ((0, 2, 1),))
        self.same(apart(MAIL, HISTORY, (1, 3)), ((0, 2, 1), (1, 1, 0)))
        self.same(apart(MAIL, HISTORY, ()), ())
        self.same(otherwise(MAIL, HISTORY, (0,)), (1, 2))
        self.same(otherwise(MAIL, HISTORY, (0, 1)), (2,))
        self.same(otherwise(MAIL, HISTORY, (0, 2)), (1,))
        self.same(otherwise(MAIL, HISTORY, ()), ())
        for call, want in ((less, less(MAIL, HISTORY, (1,))), (both, both(MAIL, HISTORY, (1,))), (twin_behind, (1, 1)),
                           (apart, ((0, 2, 1),)), (otherwise, ())):
            self.same(call(desk=MAIL, history=as_lists(HISTORY), struck=[1]), want)

    def test_unlike_things(self):
        self.same(unlike_things((0, 1, 2, 3), (0, 2, 2, 1)), ((1, 1, 2), (3, 3, 1)))
        self.same(unlike_things([0, 1], [1, 0]), ((0, 0, 1), (1, 1, 0)))
        self.same(unlike_things(world=(0, 1), twin=(0, 1)), ())
        self.same(unlike_things((), ()), ())

    def test_a_struck_refused_try_changes_nothing(self):
        self.same(apart(MAIL, HISTORY, (2,)), ())
        self.same(both(MAIL, HISTORY, (2,))[2], (False, None, (2, 0), (2, 0)))
        self.same(trail(MAIL, HISTORY, 2), ((2, ()),))

    def test_against_playing_again(self):
        rng = self.rng(2)
        for _ in range(400):
            desk = random_desk(rng, roles=3)
            history = random_history(rng, desk, 5, 14)
            struck = random_lot(rng, len(history[1]))
            kept = [at for at in range(len(history[1])) if at not in struck]
            twin = (history[0], tuple(history[1][at] for at in kept))
            self.same(less(desk, history, struck), twin)
            self.same(twin_behind(desk, history, struck), world_behind(desk, twin))
            here, there = outcomes(desk, history), dict(zip(kept, outcomes(desk, twin)))
            worlds, twins = worlds_along(desk, history), worlds_along(desk, twin)
            want, tried = [], 0
            for at in range(len(history[1])):
                tried += at not in struck
                want.append((here[at], there.get(at), worlds[at + 1], twins[tried]))
            self.same(both(desk, history, struck), tuple(want))
            unlike = [(at, x, y) for at, (x, y) in enumerate(zip(worlds[-1], twins[-1])) if x != y]
            self.same(apart(desk, history, struck), tuple(unlike))
            self.same(otherwise(desk, history, struck), tuple(at for at in kept if here[at] != there[at]))

    def test_alike_histories_come_out_alike_when_struck(self):
        rng = self.rng(3)
        for _ in range(200):
            desk = random_desk(rng)
            history = random_history(rng, desk, 5, 8)
            other = normal_history(desk, history)
            struck = random_lot(rng, len(history[1]))
            places = places_in(history[1], other[1])
            moved = tuple(sorted(places[at] for at in struck))
            self.same(twin_behind(desk, other, moved), twin_behind(desk, history, struck))
            self.same(apart(desk, other, moved), apart(desk, history, struck))
            one, two = both(desk, history, struck), both(desk, other, moved)
            for at, place in enumerate(places):
                self.same(two[place][:2], one[at][:2])


def places_in(tries, others):
    """For each try the place among the others of the same one, the first first."""
    free, found = list(range(len(others))), []
    for one in tries:
        place = next(at for at in free if others[at] == one)
        free.remove(place)
        found.append(place)
    return found


class Trails(Case):
    def test_by_hand(self):
        self.same(trail(MAIL, HISTORY, 0), ((0, ((0, 1, 0),)), (1, ((0, 2, 0),)), (2, ((0, 2, 1),))))
        self.same(trail(MAIL, as_lists(HISTORY), 1), ((1, ((0, 2, 1),)), (2, ((0, 2, 1),))))
        self.same(trail(desk=MAIL, history=HISTORY, number=3), ((3, ((1, 1, 0),)),))

    def test_it_tells_all_changes(self):
        rng = self.rng(4)
        for _ in range(400):
            desk = random_desk(rng)
            history = random_history(rng, desk, 4, 12)
            for number in range(len(history[1])):
                told = both(desk, history, (number,))
                unlike = [unlike_things(row[2], row[3]) for row in told]
                want = [(number, unlike[number])]
                for at in range(number + 1, len(told)):
                    if {one[0] for one in unlike[at - 1]} & set(history[1][at][1]):
                        want.append((at, unlike[at]))
                    else:
                        self.assertEqual(unlike[at], unlike[at - 1])
                found = trail(desk, history, number)
                self.same(found, tuple(want))
                self.same(found[-1][1], apart(desk, history, (number,)))

    def test_no_number_of_a_try(self):
        for value in odd_values() + [4, -1, 10]:
            if type(value) is int and 0 <= value < 4:
                continue
            self.fails(InvalidIndex, -1, trail, MAIL, HISTORY, value)
        self.fails(InvalidIndex, -1, trail, MAIL, ((0,), ()), 0)


class LotWorlds(Case):
    def test_by_hand(self):
        self.same(lot_worlds(MAIL, HISTORY, (0, 3)), ((2, 1), (1, 1), (2, 0), (1, 0)))
        self.same(lot_worlds(desk=MAIL, history=as_lists(HISTORY), waiting=[1]), ((2, 1), (1, 1)))
        self.same(lot_worlds(MAIL, HISTORY, ()), ((2, 1),))

    def test_each_lot_is_as_if_just_these_were_struck(self):
        rng = self.rng(5)
        for _ in range(150):
            desk = random_desk(rng)
            history = random_history(rng, desk, 4, 13)
            waiting = random_lot(rng, len(history[1]), 4)
            found = lot_worlds(desk, history, waiting)
            self.assertTrue(is_tuples(found))
            self.same(len(found), 2 ** len(waiting))
            for many in range(len(waiting) + 1):
                for places in itertools.combinations(range(len(waiting)), many):
                    struck = [waiting[place] for place in places]
                    self.same(found[sum(2 ** place for place in places)], twin_behind(desk, history, struck))

    def test_nos_in_any_order_lead_to_one_world(self):
        rng = self.rng(6)
        for _ in range(60):
            desk = random_desk(rng)
            history = random_history(rng, desk, 4, 10)
            waiting = random_lot(rng, len(history[1]), 3)
            want = lot_worlds(desk, history, waiting)[-1]
            for order in itertools.permutations(waiting):
                left, numbers = history, list(range(len(history[1])))
                for number in order:
                    at = numbers.index(number)
                    left = less(desk, left, (at,))
                    del numbers[at]
                self.same(world_behind(desk, left), want)

    def test_arguments_stay(self):
        history, struck = as_lists(HISTORY), [0, 2]
        for call in TAKES_STRUCK:
            call(MAIL, history, struck)
        trail(MAIL, history, 0)
        self.assertEqual((history, struck), (as_lists(HISTORY), [0, 2]))


if __name__ == "__main__":
    unittest.main()
