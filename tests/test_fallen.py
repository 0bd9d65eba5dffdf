"""[30]: deeds that fall by one No: which sorts make them, how many they are, papers for it."""

import collections
import itertools
import unittest

from lateno.desks import Desk
from lateno.errors import InvalidPlan, InvalidSize
from lateno.fallen import fallen_holds, fallen_paper, most_fallen, sorts_that_fall
from lateno.nets import net_moves
from lateno.plans import no_plan, stands_of
from lateno.reach import what_comes
from plan_samples import possible_tools, random_plan_history
from samples import COPY, LOCK, MAIL, Case, is_tuples, no_bools, odd_values, random_desk, spoilt
from table_samples import COPIED, comes_again, play

# what signed mails are sent for is paid: each mail that is out falls with its sign, and with it a pay
PAID = Desk(
    (("mail", 3), ("pay", 2)),
    (("sign", (0,), (((0,), (1,)),)), ("send", (0,), (((1,), (2,)),)), ("pay", (0, 1), (((2, 0), (2, 1)),))), (),
)


def moved_again(desk, move):
    """(heap that a move without strike takes, heap that it gives, whether its deed falls in the twin), told again."""
    tool, rows, _ = move
    roles = desk.tools[tool][1]
    here = play(desk, tool, [row[0] for row in rows])[0]
    there, stands = play(desk, tool, [row[1] for row in rows])
    takes = tuple(sorted((kind, row) for kind, row in zip(roles, rows) if row[0] != row[1]))
    gives = tuple(sorted((kind, pair) for kind, pair in zip(roles, zip(here, there)) if pair[0] != pair[1]))
    return takes, gives, not stands


def deeds_again(desk, tool):
    return sorted({moved_again(desk, move) for move in net_moves(desk, no_plan(tool), (0,))})


def starts_again(desk, tool):
    """The heaps that struck deeds of the tool give."""
    told = comes_again(desk)
    _, roles, rows = desk.tools[tool]
    found = set()
    for before, behind in rows:
        if all(state in told[kind] for kind, state in zip(roles, before)):
            found.add(tuple(sorted((kind, (x, y)) for kind, x, y in zip(roles, behind, before) if x != y)))
    return found


def led_again(heap, deed):
    takes, gives, _ = deed
    left = list(heap)
    for sort in takes:
        if sort not in left:
            return None
        left.remove(sort)
    return tuple(sorted(left + list(gives)))


def falls_alone(deeds, sort, moves=6, most=150):
    """Whether some row of so many moves at most, from the sort alone, has a deed that falls; None if too many come."""
    known, layer = {(sort,)}, [(sort,)]
    for _ in range(moves):
        found = set()
        for heap in layer:
            for deed in deeds:
                behind = led_again(heap, deed)
                if behind is not None:
                    if deed[2]:
                        return True
                    found.add(behind)
        layer = found - known
        known |= found
        if len(known) > most:
            return None
    return False


def all_heaps(deeds, starts, most=60):
    """For each heap that comes its (heap behind, falls), with nothing left out; None if more than most come."""
    edges, left = {}, list(starts)
    while left:
        heap = left.pop()
        if heap in edges:
            continue
        edges[heap] = {(led_again(heap, deed), deed[2]) for deed in deeds if led_again(heap, deed) is not None}
        left += [behind for behind, _ in edges[heap]]
        if len(edges) > most:
            return None
    return edges


def most_again(edges, starts):
    """The greatest number of falls on a way through these heaps, None if there is no greatest."""
    numbers = {heap: 0 for heap in edges}
    for _ in range(len(edges) + 2):
        last = numbers
        numbers = {heap: max([0] + [last[behind] + falls for behind, falls in edges[heap]]) for heap in edges}
    # falls on a way without a heap twice are fewer than the heaps
    for _ in range(len(edges) + 2):
        further = {heap: max([0] + [numbers[behind] + falls for behind, falls in edges[heap]]) for heap in edges}
        if further == numbers:
            return max(numbers[heap] for heap in starts)
        numbers = further
    return None


def holds_again(desk, tool, most, value):
    """[30] told again for any value."""
    if type(value) is not tuple or not is_tuples(value) or not no_bools(value):
        return False
    falling = sorts_that_fall(desk, tool)
    told = {}
    for row in value:
        if type(row) is not tuple or len(row) != 2 or type(row[0]) is not tuple or type(row[1]) is not int or row[1] < 0:
            return False
        if any(sort not in falling for sort in row[0]) or list(row[0]) != sorted(row[0]) or row[0] in told:
            return False
        told[row[0]] = row[1]

    def kept(heap):
        return tuple(sort for sort in heap if sort in falling)
    if any(told.get(kept(heap), most + 1) > most for heap in starts_again(desk, tool)):
        return False
    for heap in told:
        for deed in deeds_again(desk, tool):
            behind = led_again(heap, deed)
            if behind is not None and (kept(behind) not in told or told[kept(behind)] + deed[2] > told[heap]):
                return False
    return True


def random_net(rng):
    """(desk, possible tool) with a small net."""
    while True:
        desk = random_desk(rng, kinds=rng.choice([1, 2]), states=rng.choice([2, 3, 3, 4]), tools=4, fill=rng.choice([0.1, 0.2, 0.4, 0.7]))
        if rng.random() < 0.5:
            # only rows that lead to greater states: then much is finite
            desk = random_desk(rng, kinds=2, states=4, tools=4, fill=rng.choice([0.3, 0.6, 0.9]))
            tools = [(name, roles, [row for row in rows if row[0] < row[1] and sum(row[0]) < sum(row[1])]) for name, roles, rows in desk.tools]
            desk = Desk(desk.kinds, tools, ())
        tools = possible_tools(desk)
        if tools:
            return desk, rng.choice(tools)


class ByHand(Case):
    def test_sorts(self):
        self.same(sorts_that_fall(MAIL, 0), ((0, (0, 1)), (0, (0, 2)), (0, (1, 0)), (0, (1, 2))))
        self.same(sorts_that_fall(desk=MAIL, tool=1), sorts_that_fall(MAIL, 0))
        self.same(sorts_that_fall(LOCK, 1), ((0, (0, 1)), (0, (0, 2)), (0, (1, 0)), (0, (1, 2))))
        self.same(sorts_that_fall(PAID, 2), tuple((0, (x, y)) for x in range(3) for y in range(3) if x != y) + ((1, (0, 1)),))

    def test_numbers(self):
        # signed and sent: one falls; sent and tried again is no deed
        self.same(most_fallen(MAIL, 0), 1)
        self.same(most_fallen(desk=MAIL, tool=1), 0)
        self.same(most_fallen(COPY, 0), None)
        self.same(most_fallen(COPIED, 0), None)
        self.same(most_fallen(PAID, 0), None)
        self.same(most_fallen(PAID, 2), 0)
        self.same(fallen_paper(desk=MAIL, tool=0), (((), 0), (((0, (1, 0)),), 1)))
        self.same(fallen_paper(MAIL, 1), (((), 0),))
        self.same(fallen_paper(COPY, 0), None)

    def test_rows_of_deeds_that_fall(self):
        # each mail that is signed is read, then sent; two copies of the last state are sealed
        kinds = (("mail", 4),)
        tools = (("sign", (0,), (((0,), (1,)),)), ("read", (0,), (((1,), (2,)),)), ("send", (0,), (((2,), (3,)),)))
        self.same([most_fallen(Desk(kinds, tools, ()), tool) for tool in range(3)], [2, 1, 0])
        split = tools + (("seal", (0, 0), (((3, 0), (0, 1)),)),)
        self.same(most_fallen(Desk(kinds, split, ()), 0), None)
        ended = tools + (("join", (0, 0), (((3, 2), (3, 3)),)),)
        self.same([most_fallen(Desk(kinds, ended, ()), tool) for tool in range(4)], [None, None, None, None])
        last = tools[:2] + (("send", (0, 0), (((2, 2), (3, 3)),)),)
        self.same([most_fallen(Desk(kinds, last, ()), tool) for tool in range(3)], [2, 1, 0])

    def test_a_ring_of_deeds_that_stand_makes_no_number_endless(self):
        # on turns both alike as often as one likes; then at most one falls
        kinds = (("a", 4),)
        on = ("on", (0,), (((0,), (0,)), ((1,), (1,))))
        once = Desk(kinds, (("set", (0,), (((0,), (1,)),)), on, ("use", (0,), (((1,), (2,)),))), ())
        self.same(most_fallen(once, 0), 1)
        # here a deed of the ring falls
        again = Desk(kinds, (("set", (0,), (((0,), (1,)),)), ("use", (0,), (((1,), (1,)),))), ())
        self.same(most_fallen(again, 0), None)
        self.same(fallen_paper(again, 0), None)
        self.same([fallen_holds(again, 0, most, ((((0, (1, 0)),), 9),)) for most in (0, 9)], [False, False])

    def test_what_makes_no_fall_is_left_out(self):
        # each copy makes one thing more apart, but nothing is ever done by it
        desk = Desk((("a", 2), ("b", 2)), (("set", (0,), (((0,), (1,)),)), ("log", (0, 1), (((0, 0), (0, 0)), ((1, 0), (1, 1)))),
                                           ("use", (0,), (((0,), (0,)), ((1,), (1,))))), ())
        self.same(sorts_that_fall(desk, 0), ((0, (0, 1)), (1, (0, 1))))
        self.same(most_fallen(desk, 0), 0)
        self.same(fallen_paper(desk, 0), (((), 0),))

    def test_papers(self):
        paper = fallen_paper(MAIL, 0)
        self.same(fallen_holds(MAIL, 0, 1, paper), True)
        self.same(fallen_holds(desk=MAIL, tool=0, most=5, value=paper[::-1]), True)
        self.same(fallen_holds(MAIL, 0, 0, paper), False)
        self.same(fallen_holds(MAIL, 0, 1, paper[1:]), False)
        self.same(fallen_holds(MAIL, 0, 1, paper[:1]), False)
        self.same(fallen_holds(MAIL, 0, 1, paper + paper[:1]), False)
        self.same(fallen_holds(MAIL, 0, 1, list(paper)), False)
        self.same(fallen_holds(MAIL, 0, 1, (paper[0], list(paper[1]))), False)
        self.same(fallen_holds(MAIL, 0, 1, (paper[0], ([(0, (1, 0))], 1))), False)
        self.same(fallen_holds(MAIL, 0, 1, (paper[0], (((0, [1, 0]),), 1))), False)
        self.same(fallen_holds(MAIL, 0, 1, (((), 0), (((0, (1, 0)),), 0))), False)
        self.same(fallen_holds(MAIL, 0, 2, (((), 0), (((0, (1, 0)),), 2))), True)
        self.same(fallen_holds(MAIL, 0, 3, (((), 1), (((0, (1, 0)),), 2))), True)
        self.same(fallen_holds(MAIL, 0, 3, (((), 1), (((0, (1, 0)),), 1))), False)
        self.same(fallen_holds(MAIL, 0, 1, (((), False), (((0, (1, 0)),), 1))), False)
        self.same(fallen_holds(MAIL, 0, 1, (((), 0), (((0, (True, 0)),), 1))), False)
        self.same(fallen_holds(MAIL, 0, 1, (((), 0), (((0, (1, 0)),), 1), (((0, (2, 1)),), 0))), False)
        # heaps that do not come are let, with all behind them
        more = (((), 0), (((0, (1, 0)),), 1), (((0, (1, 0)), (0, (1, 0))), 2), (((0, (0, 1)),), 0))
        self.same(fallen_holds(MAIL, 0, 1, more), False)
        self.same(fallen_holds(MAIL, 0, 1, more[:3]), True)
        swapped = more[:2] + (((), 0), (((0, (1, 0)), (0, (0, 1))), 2))[1:]
        self.same([holds_again(MAIL, 0, 1, swapped), fallen_holds(MAIL, 0, 1, swapped)], [False, False])
        ordered = more[:2] + ((((0, (0, 1)),), 1), (((0, (0, 1)), (0, (1, 0))), 2), (((0, (0, 2)),), 0), (((0, (1, 2)),), 1))
        self.same(fallen_holds(MAIL, 0, 1, ordered), holds_again(MAIL, 0, 1, ordered))
        self.same(fallen_holds(MAIL, 1, 0, ()), False)
        self.same(fallen_holds(MAIL, 1, 0, (((), 0),)), True)


class Told(Case):
    def test_sorts_against_telling_again(self):
        rng = self.rng(1)
        seen = {True: 0, False: 0}
        for _ in range(150):
            desk, tool = random_net(rng)
            found = sorts_that_fall(desk, tool)
            deeds = deeds_again(desk, tool)
            every = [(kind, pair) for kind, lot in enumerate(what_comes(desk)) for pair in itertools.permutations(lot, 2)]
            self.same(found, tuple(sort for sort in every if sort in found))
            for sort in every:
                falls = falls_alone(deeds, sort, 5 if sort not in found else 12)
                if falls is not None:
                    self.same(sort in found, falls)
                    seen[falls] += 1
        self.assertGreater(min(seen.values()), 50)

    def test_numbers_against_telling_again(self):
        rng = self.rng(2)
        seen = collections.Counter()
        for _ in range(1000):
            desk, tool = random_net(rng)
            try:
                found, paper = most_fallen(desk, tool), fallen_paper(desk, tool)
            except InvalidSize as error:
                self.assertEqual(error.word, "heaps")
                seen["heaps"] += 1
                continue
            self.same(paper is None, found is None)
            if paper is not None:
                self.assertTrue(is_tuples(paper))
                self.same(fallen_holds(desk, tool, found, paper), True)
                self.same(holds_again(desk, tool, found, paper), True)
                if found > 0:
                    self.same(fallen_holds(desk, tool, found - 1, paper), False)
            starts = starts_again(desk, tool)
            edges = all_heaps(deeds_again(desk, tool), starts)
            if edges is not None:
                self.same(found, most_again(edges, starts))
                seen[(found, len(edges) > 3)] += 1
            elif found is not None:
                seen["finite of endless heaps"] += 1
        self.assertGreater(seen["finite of endless heaps"], 5)
        self.assertGreater(sum(many for key, many in seen.items() if type(key) is tuple and key[1] and key[0]), 5)
        self.assertGreater(sum(many for key, many in seen.items() if type(key) is tuple and key[0] is None), 20)
        self.assertLess(seen["heaps"], 20)

    def test_no_history_has_more(self):
        rng = self.rng(3)
        tight = 0
        for _ in range(3000):
            desk, tool = random_net(rng)
            history = random_plan_history(rng, desk, no_plan(tool), 5, 14)
            if history is None:
                continue
            try:
                most = most_fallen(desk, tool)
            except InvalidSize:
                continue
            stands = stands_of(desk, no_plan(tool), history)
            many = sum(not row[1] for number, row in enumerate(stands) if number != history[2][0])
            if most is not None:
                self.assertLessEqual(many, most)
                tight += many == most > 0
        self.assertGreater(tight, 20)

    def test_papers_against_telling_again(self):
        rng = self.rng(4)
        seen = {True: 0, False: 0}
        while min(seen.values()) < 150:
            desk, tool = random_net(rng)
            try:
                paper, most = fallen_paper(desk, tool), most_fallen(desk, tool)
            except InvalidSize:
                continue
            if paper is None or len(paper) > 40:
                paper, most = (((), 0),) + tuple(((sort,), 1) for sort in sorts_that_fall(desk, tool)), 1
            for _ in range(6):
                value = spoilt(rng, paper)
                bound = rng.choice([most, most, most + 1, max(0, most - 1)])
                want = holds_again(desk, tool, bound, value)
                self.same(fallen_holds(desk, tool, bound, value), want)
                seen[want] += 1
            # greater numbers behind a fall are wanted, too
            other = tuple((heap, number + rng.randint(0, 1)) for heap, number in paper)
            self.same(fallen_holds(desk, tool, most + 1, other), holds_again(desk, tool, most + 1, other))
        for value in odd_values():
            self.same(fallen_holds(MAIL, 0, 1, value), False)


class Errors(Case):
    def test_plans_and_sizes(self):
        desk = Desk((("a", 3),), (("far", (0,), (((2,), (1,)),)), ("set", (0,), (((0,), (1,)),))), ())
        for call, rest in ((sorts_that_fall, ()), (most_fallen, ()), (fallen_paper, ()), (fallen_holds, (0, ()))):
            for tool in (0, 2, -1, True, None, "set", (1,)):
                self.fails(InvalidPlan, ("tools", 0), call, desk, tool, *rest)
        kinds = (("a", 4),)
        every = tuple(((state,), ((state + 1) % 4,)) for state in range(4))
        rows = tuple(((x, y, z), (x, y, z)) for x in range(4) for y in range(4) for z in range(4))
        large = Desk(kinds, (("set", (0,), every), ("far", (0, 0, 0), rows)), ())
        for call, rest in ((sorts_that_fall, ()), (most_fallen, ()), (fallen_paper, ()), (fallen_holds, (0, ()))):
            self.fails(InvalidSize, "net", call, large, 0, *rest)
            self.fails(InvalidPlan, ("tools", 0), call, large, 2, *rest)

    def test_many_heaps(self):
        # a goes up and leaves, each time, things of other kinds apart, which go up by themselves: each such deed falls
        def desk(many, kinds):
            rows = [((x, 0), (x + 1, 1)) for x in range(1, many + 1)]
            ups = [((y,), (y + 1,)) for y in range(1, 4)]
            tools = [("set", (0,), (((0,), (1,)),))]
            for at in range(kinds):
                tools += [("mark" + "bcd"[at], (0, at + 1), rows), ("up" + "bcd"[at], (at + 1,), ups)]
            return Desk([("a", 6)] + [("bcd"[at], 5) for at in range(kinds)], tools, ())
        for many, kinds in ((1, 1), (2, 1), (4, 1), (1, 2), (2, 2), (1, 3)):
            told = desk(many, kinds)
            self.same(most_fallen(told, 0), 4 * many)
            starts = starts_again(told, 0)
            self.same(most_fallen(told, 0), most_again(all_heaps(deeds_again(told, 0), starts, 10 ** 4), starts))
            self.same(fallen_holds(told, 0, 4 * many, fallen_paper(told, 0)), True)
            self.same(fallen_holds(told, 0, 4 * many - 1, fallen_paper(told, 0)), False)
        large = desk(4, 3)
        deeds, falling = deeds_again(large, 0), sorts_that_fall(large, 0)
        known, layer = set(), {tuple(sort for sort in heap if sort in falling) for heap in starts_again(large, 0)}
        for _ in range(10):
            known |= layer
            layer = {led_again(heap, deed) for heap in layer for deed in deeds} - {None} - known
        self.assertGreater(len({tuple(sort for sort in heap if sort in falling) for heap in known}), 400)
        for call in (most_fallen, fallen_paper):
            self.fails(InvalidSize, "heaps", call, large, 0)
        self.same(fallen_holds(large, 0, 100, ()), False)
        self.assertGreater(len(falling), 20)


if __name__ == "__main__":
    unittest.main()
