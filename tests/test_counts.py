"""[18]: what told histories count."""

import unittest

from lateno.counts import counted
from lateno.desks import Desk
from lateno.errors import InvalidHistory, InvalidNumber, InvalidStruck
from samples import COPY, MAIL, Case, as_lists, odd_values, random_history, spoilt
from table_samples import BOUGHT, PRICE, count_again, numbers_for, random_counting_desk, wrong_number, wrong_numbers

HISTORY = ((0,), ((0, (0,)), (1, (0,)), (0, (0,))))
BOTH = ("otherwise", (0, 1))


class Counted(Case):
    def test_by_hand(self):
        self.same(counted(MAIL, HISTORY, (0,), PRICE), None)
        self.same(counted(BOUGHT, HISTORY, (0,), PRICE), 2)
        self.same(counted(BOUGHT, HISTORY[:1] + (HISTORY[1][:2],), (0,), ["price"]), 3)
        self.same(counted(MAIL, HISTORY, (0,), BOTH), 2)
        self.same(counted(MAIL, HISTORY, (0,), ("otherwise", (1,))), 1)
        self.same(counted(MAIL, as_lists(HISTORY), [0], ["otherwise", [0]]), 1)
        self.same(counted(MAIL, HISTORY, (0, 1), BOTH), 1)
        self.same(counted(MAIL, HISTORY, (0, 1, 2), BOTH), 0)
        self.same(counted(desk=MAIL, history=HISTORY, struck=(0,), number=("apart", (0,))), 1)
        self.same(counted(MAIL, HISTORY, (0,), ("apart", ())), 0)
        self.same(counted(MAIL, HISTORY, (), PRICE), 0)
        self.same(counted(MAIL, ((), ()), (), ("touched", (0,))), 0)

    def test_what_is_touched(self):
        touched = ("touched", (0,))
        self.same(counted(MAIL, HISTORY, (0,), touched), 0)
        copies = ((0, 0, 0), ((0, (0,)), (1, (0, 1)), (1, (1, 2))))
        self.same(counted(COPY, copies, (0,), touched), 2)
        self.same(counted(COPY, copies, (0, 1), touched), 1)
        self.same(counted(COPY, copies, (1,), touched), 1)
        self.same(counted(COPY, copies, (0,), ("touched", ())), 0)

    def test_what_came_apart_before_is_not_touched_again(self):
        # a struck try puts the second apart; made equal again it comes apart once more, by a try that isn't struck
        desk = Desk((("a", 2), ("b", 2)), (
            ("set", (0,), (((0,), (1,)),)), ("both", (0, 1), (((1, 0), (1, 1)), ((1, 1), (1, 0)))),
            ("on", (1,), (((0,), (1,)), ((1,), (1,)))),
        ), ())
        told = ((0, 1), ((0, (0,)), (1, (0, 1)), (2, (1,)), (1, (0, 1))))
        self.same(counted(desk, told, (0,), ("touched", (1,))), 1)
        self.same(counted(desk, told, (0, 1), ("touched", (1,))), 0)
        self.same(counted(desk, told, (1,), ("touched", (0, 1))), 0)
        self.same(counted(desk, told, (0,), ("touched", (0,))), 0)
        self.same(counted(desk, told, (0,), ("apart", (0, 1))), 2)

    def test_from_world_to_twin(self):
        one_way = Desk((("a", 2),), (("set", (0,), (((0,), (1,)),)),), ((0, 0, 1, 5),))
        self.same(counted(one_way, ((0,), ((0, (0,)),)), (0,), PRICE), None)
        other_way = Desk((("a", 2),), (("set", (0,), (((0,), (1,)),)),), ((0, 1, 0, 7),))
        self.same(counted(other_way, ((0, 0), ((0, (0,)), (0, (1,)))), (0, 1), PRICE), 14)

    def test_against_telling_again(self):
        rng = self.rng(1)
        seen = {}
        for _ in range(2500):
            desk = random_counting_desk(rng)
            history = random_history(rng, desk, 8, 18)
            struck = tuple(number for number in range(len(history[1])) if rng.random() < rng.choice([0.1, 0.4, 0.8]))
            for number in numbers_for(rng, desk):
                want = count_again(desk, history, struck, number)
                self.same(counted(desk, history, struck, number), want)
                seen[(number[0], min(want or 0, 2))] = seen.get((number[0], min(want or 0, 2)), 0) + 1
        self.assertEqual(len(seen), 12)
        self.assertGreater(min(seen.values()), 10)


class Errors(Case):
    def test_histories_struck_tries_numbers(self):
        for value in (None, 0, "ab", (), ((0,),), ((1,), ()), ((True,), ()), MAIL):
            self.fails(InvalidHistory, -1, counted, MAIL, value, None, None)
        self.fails(InvalidHistory, 1, counted, MAIL, ((0,), ((0, (0,)), (0, (1,)))), None, None)
        for value in (None, 0, "ab", MAIL):
            self.fails(InvalidStruck, -1, counted, MAIL, HISTORY, value, None)
        for value in (0, 3, -1, True, None, "1", (1,)):
            self.fails(InvalidStruck, 1, counted, MAIL, HISTORY, (0, value), None)
        rng = self.rng(2)
        for value in wrong_numbers(rng, spoilt, odd_values):
            at = wrong_number(MAIL, value)
            if at is not None:
                self.fails(InvalidNumber, at, counted, MAIL, HISTORY, (0,), value)
                self.fails(InvalidNumber, at, counted, MAIL, ((), ()), (), value)
            else:
                self.same(counted(MAIL, HISTORY, (0,), value), count_again(MAIL, HISTORY, (0,), value))

    def test_arguments_stay(self):
        told = (as_lists(HISTORY), [0], ["otherwise", [0, 1]])
        counted(MAIL, *told)
        self.assertEqual(told, (as_lists(HISTORY), [0], ["otherwise", [0, 1]]))


if __name__ == "__main__":
    unittest.main()
