"""A live room told again by its whole log, and random events in rooms; shared by the tests of [52] to [54]."""

from lateno.asking import asks_needed
from ledger_samples import behind_try, bill_again, least_lots_of, lots_of
from table_samples import play, price_again


class Room:
    """As [52] tells it, worked out from all tries each time."""

    def __init__(self, desk, rules, bound):
        self.desk, self.rules, self.bound = desk, dict(rules), bound
        self.things, self.log, self.paid = [], [], 0

    def standing(self):
        return [number for number, row in enumerate(self.log) if row[3] != "no"]

    def waiting(self):
        return tuple(number for number, row in enumerate(self.log) if row[3] == "waits")

    def history(self):
        return (tuple(self.things), tuple((self.log[number][1], self.log[number][2]) for number in self.standing()))

    def led(self, left_out=()):
        """(world, {number: done}) of all tries not struck but those left out."""
        world, done = [0] * len(self.things), {}
        for number in self.standing():
            if number not in left_out:
                _, tool, members, _ = self.log[number]
                behind, done[number] = play(self.desk, tool, [world[member] for member in members])
                for member, state in zip(members, behind):
                    world[member] = state
        return tuple(world), done

    def ledger(self):
        waiting = self.waiting()
        worlds = []
        for bits in range(2 ** len(waiting)):
            worlds.append(self.led([number for place, number in enumerate(waiting) if bits & 2 ** place])[0])
        return (tuple(self.things), tuple((self.log[number][1], self.log[number][2]) for number in waiting), tuple(worlds))

    def is_let(self, tool, members, answers=None, own=None):
        """Whether the bill behind the try is within the bound, behind yeses to these places alone."""
        ledger = behind_try(self.desk, self.ledger(), (tool, members), tool in self.rules)
        free = [place for place in range(len(ledger[1])) if place not in (answers or ())]
        told = bill_again(self.desk, ledger, free)
        return told is not None and (self.bound is None or told <= self.bound)

    def ask(self, agent, tool, members):
        if any(tool in self.rules[self.log[number][1]] for number in self.waiting()):
            return "rule"
        if tool in self.rules and len(self.waiting()) == 6:
            return "full"
        if not self.is_let(tool, members):
            return "held"
        self.log.append((agent, tool, tuple(members), "waits" if tool in self.rules else "yes"))
        return "done" if self.led()[1][len(self.log) - 1] else "refused"

    def answer(self, number, word):
        self.log[number] = self.log[number][:3] + (word,)

    def no(self, numbers):
        ahead, done = self.led()
        for number in numbers:
            self.answer(number, "no")
        now, done_now = self.led()
        price = sum(price_again(self.desk, kind, x, y) for kind, x, y in zip(self.things, ahead, now))
        self.paid += price
        changed = tuple((thing, x, y) for thing, (x, y) in enumerate(zip(ahead, now)) if x != y)
        return (price, changed, tuple(number for number in self.standing() if done[number] != done_now[number]))

    def told(self):
        """The log as [52] tells it."""
        done = self.led()[1]
        return tuple(row + (done.get(number, False),) for number, row in enumerate(self.log))

    def frees(self, tool, members):
        places = range(len(self.waiting()) + (tool in self.rules))
        numbers = self.waiting() + (len(self.log),)
        lots = least_lots_of([lot for lot in lots_of(places) if self.is_let(tool, members, lot)])
        return tuple(tuple(numbers[place] for place in lot) for lot in lots)

    def asks(self, tool, members):
        return asks_needed(self.desk, self.ledger(), (tool, tuple(members)), tool in self.rules, self.bound)
