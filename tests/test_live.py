"""[52], [53]: the live room, step by step."""

import collections
import unittest

from lateno.desks import Desk
from lateno.errors import InvalidBound, InvalidIndex, InvalidLot, InvalidRules, InvalidSize, InvalidTry
from lateno.holding import bill, ledger_of
from lateno.live import Live
from lateno.silence import is_silent
from lateno.tables import worst_of
from lateno.twins import lot_worlds
from lateno.worlds import world_behind
from ledger_samples import bill_again, random_room
from room_samples import Room
from samples import LOCK, MAIL, Case, as_lists, is_tuples, odd_values, random_try
from table_samples import BOUGHT, PRICE
from test_silence import random_rules, wrong_rules

BOTH = ((0, ()), (1, ()))


def state_of(live):
    """All that a room tells."""
    return (live.world(), live.history(), live.bill(), live.paid(), live.log(), live.waiting())


def state_again(room):
    return (room.led()[0], room.history(), bill_again(room.desk, room.ledger()), room.paid, room.told(), room.waiting())


def events(rng, desk, rules, bound, many=24):
    """(a room, the same told again), behind each of many random events; each answer is looked at."""
    live, room = Live(desk, rules, bound), Room(desk, rules, bound)
    for _ in range(many):
        turn = rng.random()
        waiting = room.waiting()
        if turn < 0.2 or not room.things:
            if len(room.things) < 15:
                kind = rng.randrange(len(desk.kinds))
                room.things.append(kind)
                yield live, room, "thing", live.thing(kind), len(room.things) - 1
        elif turn < 0.7 and len(waiting) < 4:
            one = random_try(rng, desk, room.things)
            if one is not None and (len(waiting) < 3 or one[0] not in room.rules):
                agent = rng.choice(["ann", "bob", "zzzzzzzz"])
                if rng.random() < 0.3:
                    yield live, room, "frees", live.frees(agent, *one), room.frees(*one)
                    yield live, room, "asks", live.asks(agent, *one), room.asks(*one)
                found = live.ask(agent, one[0], list(one[1]) if rng.random() < 0.5 else one[1])
                yield live, room, found, found, room.ask(agent, *one)
        elif waiting and turn < 0.82:
            number = rng.choice(waiting)
            found = live.yes(number)
            room.answer(number, "yes")
            yield live, room, "yes", found, None
        else:
            numbers = tuple(number for number in waiting if rng.random() < 0.6)
            yield live, room, "no", live.no(numbers), room.no(numbers)


class ByHand(Case):
    def test_a_room(self):
        live = Live(BOUGHT, BOTH, None)
        self.same(state_of(live), ((), ((), ()), 0, 0, (), ()))
        self.same([live.thing(0), live.thing(0)], [0, 1])
        self.same(live.ask("ann", 0, (0,)), "done")
        self.same(live.ask("bob", 1, [0]), "done")
        self.same(live.ask("ann", 0, (0,)), "refused")
        self.same(live.ask(agent="bob", tool=0, things=(1,)), "done")
        self.same(live.waiting(), (0, 1, 2, 3))
        self.same(live.world(), (2, 1))
        self.same(live.log(), (("ann", 0, (0,), "waits", True), ("bob", 1, (0,), "waits", True), ("ann", 0, (0,), "waits", False),
                               ("bob", 0, (1,), "waits", True)))
        self.same(live.yes(3), None)
        # without the first try the send is refused and the second sign done
        self.same(live.no([0]), (2, ((0, 2, 1),), (1, 2)))
        self.same(live.log()[:3], (("ann", 0, (0,), "no", False), ("bob", 1, (0,), "waits", False), ("ann", 0, (0,), "waits", True)))
        self.same(live.history(), ((0, 0), ((1, (0,)), (0, (0,)), (0, (1,)))))
        self.same([live.paid(), live.bill(), live.waiting()], [2, 1, (1, 2)])
        self.same(live.no(()), (0, (), ()))
        self.same(live.no((1, 2)), (1, ((0, 1, 0),), ()))
        self.same(state_of(live), ((0, 1), ((0, 0), ((0, (1,)),)), 0, 3, (
            ("ann", 0, (0,), "no", False), ("bob", 1, (0,), "no", False), ("ann", 0, (0,), "no", False), ("bob", 0, (1,), "yes", True)), ()))

    def test_held(self):
        live = Live(MAIL, ((0, ()),), None)
        live.thing(0)
        self.same(live.ask("ann", 0, (0,)), "done")
        self.same(live.frees("bob", 1, (0,)), ((),))
        self.same(live.ask("bob", 1, (0,)), "done")
        # a sign now can't be put right: were the first one struck, this one would be done on what is out
        self.same(live.ask("ann", 0, (0,)), "held")
        self.same(live.frees("ann", 0, (0,)), ((0,),))
        self.same(live.asks("ann", 0, (0,)), 1)
        self.same(len(live.log()), 2)
        live.yes(0)
        self.same(live.ask("ann", 0, (0,)), "refused")
        self.same(live.log()[2], ("ann", 0, (0,), "waits", False))

    def test_a_bound(self):
        live = Live(BOUGHT, ((0, ()),), 1)
        live.thing(0)
        live.thing(0)
        self.same(live.ask("ann", 0, (0,)), "done")
        self.same(live.ask("ann", 0, (1,)), "held")
        self.same(live.frees("ann", 0, (1,)), ((0,), (1,)))
        # answered No, the first costs nothing more: either answer to it lets the try
        self.same(live.asks("ann", 0, (1,)), 1)
        self.same(live.ask("ann", 1, (0,)), "held")
        self.same(live.frees("ann", 1, (0,)), ((0,),))
        self.same(live.no([0]), (1, ((0, 1, 0),), ()))
        self.same(live.ask("ann", 1, (0,)), "refused")
        self.same(live.log()[-1], ("ann", 1, (0,), "yes", False))

    def test_rules_come_first(self):
        live = Live(MAIL, ((0, (1,)), (1, (1,))), 0)
        live.thing(0)
        self.same(live.ask("ann", 0, (0,)), "held")
        free = Live(MAIL, [[0, [1]]], None)
        free.thing(0)
        self.same([free.ask("ann", 0, (0,)), free.ask("bob", 1, (0,)), free.ask("bob", 0, (0,))], ["done", "rule", "refused"])
        # whose yes would let it is told rules aside
        self.same(free.frees("bob", 1, (0,)), ((),))
        free.yes(0)
        self.same(free.ask("bob", 1, (0,)), "rule")
        free.yes(1)
        self.same(free.ask("bob", 1, (0,)), "done")

    def test_a_seventh(self):
        desk = Desk((("a", 2),), (("none", (0,), ()), ("set", (0,), (((0,), (1,)),)), ("burn", (0,), (((0,), (1,)), ((1,), (1,))))), ((0, 1, 0, 1),))
        live = Live(desk, ((0, ()), (1, ())), None)
        live.thing(0)
        for at in range(6):
            self.same(live.ask("ann", 0, (0,)), "refused")
        self.same(live.waiting(), (0, 1, 2, 3, 4, 5))
        self.same([live.ask("ann", 0, (0,)), live.ask("ann", 1, (0,))], ["full", "full"])
        for call in (live.frees, live.asks):
            self.fails(InvalidSize, "waiting", call, "ann", 1, (0,))
            self.fails(InvalidTry, 2, call, "ann", 1, (1,))
        self.same(live.ask("ann", 2, (0,)), "done")
        self.same(live.frees("ann", 2, (0,)), ((),))
        self.same(live.no((1, 3, 5)), (0, (), ()))
        self.same(live.ask("ann", 1, (0,)), "refused")
        self.same(live.waiting(), (0, 2, 4, 7))
        # held comes behind full
        full = Live(desk, ((0, ()), (1, ())), 0)
        full.thing(0)
        for at in range(6):
            full.ask("ann", 0, (0,))
        self.same([full.ask("ann", 1, (0,)), full.ask("ann", 2, (0,))], ["full", "done"])

    def test_rooms_are_no_sequences(self):
        live = Live(MAIL, (), None)
        with self.assertRaises(TypeError):
            iter(live)
        with self.assertRaises(TypeError):
            len(live)


class Told(Case):
    def test_step_by_step(self):
        rng = self.rng(1)
        seen = collections.Counter()
        for _ in range(900):
            desk = random_room(rng)
            rules = random_rules(rng, desk)
            bound = rng.choice([None, None, 0, 2, 5, 9, 15])
            for live, room, word, found, want in events(rng, desk, rules, bound):
                self.same(found, want)
                self.same(state_of(live), state_again(room))
                self.assertTrue(is_tuples(state_of(live)))
                seen[word] += 1
                if word == "no" and found[2]:
                    seen["otherwise"] += 1
                if word == "no" and found[0]:
                    seen["paid"] += 1
                if word == "frees" and found != ((),):
                    seen["not free"] += 1
        for word in ("thing", "rule", "held", "done", "refused", "yes", "no", "otherwise", "paid", "frees", "asks", "not free"):
            self.assertGreater(seen[word], 5, word)

    def test_what_the_room_keeps(self):
        rng = self.rng(2)
        held = 0
        for _ in range(150):
            desk = random_room(rng)
            rules = random_rules(rng, desk)
            silent = is_silent(desk, rules)
            struck = []
            for live, room, word, found, _ in events(rng, desk, rules, None, 16):
                history = live.history()
                self.same(live.world(), world_behind(desk, history))
                places = [place for place, number in enumerate(room.standing()) if number in live.waiting()]
                self.same(room.ledger()[2], lot_worlds(desk, history, places))
                self.same(live.bill(), bill(desk, ledger_of(desk, history, places)))
                self.assertFalse(silent and word == "held")
                held += word == "held"
                struck = [row[1] for row in live.log() if row[3] == "no"]
                worsts = [worst_of(desk, tool, PRICE) for tool in struck]
                self.assertTrue(None in worsts or live.paid() <= sum(worsts))
        self.assertGreater(held, 20)

    def test_asking_changes_nothing(self):
        rng = self.rng(3)
        for _ in range(30):
            desk = random_room(rng)
            for live, room, *_ in events(rng, desk, random_rules(rng, desk), 5):
                ahead = state_of(live)
                one = random_try(rng, desk, room.things)
                if one is not None and len(room.waiting()) < 4:
                    live.frees("ann", *one)
                    live.asks("ann", *one)
                self.same(state_of(live), ahead)

    def test_arguments_are_not_kept(self):
        rules, things, numbers = [[0, [1]]], [0], [0]
        live = Live(LOCK, rules, None)
        rules[0][1].clear()
        live.thing(0)
        live.ask("ann", 0, things)
        things[0] = 7
        self.same(live.ask("ann", 1, (0,)), "rule")
        self.same(live.log(), (("ann", 0, (0,), "waits", True),))
        live.no(numbers)
        self.assertEqual(numbers, [0])


class Errors(Case):
    def room(self):
        live = Live(MAIL, ((0, ()),), None)
        live.thing(0)
        live.thing(0)
        live.ask("ann", 0, (0,))
        live.ask("ann", 1, (1,))
        live.ask("ann", 0, (1,))
        return live

    def left(self, live, error, at, call, *told, **named):
        ahead = state_of(live)
        self.fails(error, at, call, *told, **named)
        self.same(state_of(live), ahead)

    def test_rules_then_bounds(self):
        rng = self.rng(4)
        for value in odd_values() + [((0, ()), (0, ())), ((1, ()), (0, ())), ((0, (1, 0)),), [[0, [2]]]]:
            at = wrong_rules(MAIL, value)
            if at is not None:
                self.fails(InvalidRules, at, Live, MAIL, value, "x")
        for value in (-1, True, False, "1", (), (1,), MAIL, 10 ** 30 * -1):
            self.fails(InvalidBound, -1, Live, MAIL, (), value)
        self.same(Live(desk=MAIL, rules=(), bound=10 ** 9).bill(), 0)
        self.assertIsNotNone(rng)

    def test_kinds_numbers_lots(self):
        live = self.room()
        for value in odd_values() + [1]:
            if type(value) is int and value == 0:
                continue
            self.left(live, InvalidIndex, -1, live.thing, value)
        for value in odd_values() + [1, 3, 4, -1]:
            self.left(live, InvalidIndex, -1, live.yes, value)
        for value in (None, 0, "ab", True, MAIL):
            self.left(live, InvalidLot, -1, live.no, value)
        for value in (1, 3, -1, True, None, "2", (2,), 0):
            self.left(live, InvalidLot, 1, live.no, (0, value, 9))
        self.left(live, InvalidLot, 0, live.no, [1])
        self.left(live, InvalidLot, 1, live.no, [2, 0])
        self.left(live, InvalidLot, 2, live.no, [0, 2, 2])
        live.yes(0)
        # a bool is no number, though it is equal to one that waits
        bools = Live(MAIL, ((0, ()),), None)
        for _ in range(2):
            bools.ask("ann", 0, (bools.thing(0),))
        self.same(bools.waiting(), (0, 1))
        for value in (True, False):
            self.left(bools, InvalidIndex, -1, bools.yes, value)
            self.left(bools, InvalidLot, 0, bools.no, (value,))
        self.left(bools, InvalidLot, 1, bools.no, (0, True))
        self.left(live, InvalidIndex, -1, live.yes, 0)
        self.left(live, InvalidLot, 0, live.no, (0, 2))
        live.no((2,))
        self.left(live, InvalidIndex, -1, live.yes, 2)
        self.left(live, InvalidLot, 0, live.no, (2,))

    def test_tries(self):
        live = self.room()
        for call in (live.ask, live.frees, live.asks):
            for agent in odd_values() + ["Ann", "a b", "a1", "toolongname", "ann\n", "\u00e4"]:
                if agent not in ("a", "mail", "ab"):
                    self.left(live, InvalidTry, 0, call, agent, 9, None)
            for tool in (2, -1, True, None, "sign", (0,), 10 ** 30, MAIL):
                self.left(live, InvalidTry, 1, call, "ann", tool, None)
            for things in (None, 0, "a", (), (0, 1), (2,), (-1,), (True,), ("0",), [[0]], MAIL, {0: 1}):
                self.left(live, InvalidTry, 2, call, "ann", 0, things)


if __name__ == "__main__":
    unittest.main()
