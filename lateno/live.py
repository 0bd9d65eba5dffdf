"""A live room: agents try, what waits is answered, and each No is put right."""

from lateno.asking import asks_needed, least_yeses
from lateno.desks import is_name
from lateno.errors import InvalidIndex, InvalidLot, InvalidTry
from lateno.holding import MOST_WAITING, bill, ledger_of, lets, need_bound
from lateno.pairs import price_table, world_price
from lateno.silence import need_rules
from lateno.twins import unlike_things
from lateno.worlds import outcomes, right_try, world_behind
from lateno.checks import is_below, is_row

WAITS = "waits"
YES = "yes"
NO = "no"


class Live:
    """A room with things and tries; it changes."""

    def __init__(self, desk, rules, bound):
        self._desk = desk
        # for each tool that runs ahead the tools that wait meanwhile
        self._rules = {tool: waits for tool, waits in need_rules(desk, rules)}
        need_bound(bound)
        self._bound = bound
        self._things = []
        # for each try (agent, (tool, things)), and its answer
        self._tries = []
        self._answers = []
        self._paid = 0

    def thing(self, kind):
        """A thing of the kind comes; its number."""
        if not is_below(kind, len(self._desk.kinds)):
            raise InvalidIndex(-1)
        self._things.append(kind)
        return len(self._things) - 1

    def ask(self, agent, tool, things):
        """An agent would try: "rule", "full" or "held" if it is not tried, else "done" or "refused"."""
        one = self._need_try(agent, tool, things)
        waiting = self.waiting()
        waits = tool in self._rules
        if any([tool in self._rules[self._tries[number][1][0]] for number in waiting]):
            return "rule"
        if waits and len(waiting) == MOST_WAITING:
            return "full"
        if not lets(self._desk, self._ledger(), one, waits, self._bound):
            return "held"
        self._tries.append((agent, one))
        self._answers.append(WAITS if waits else YES)
        return "done" if outcomes(self._desk, self.history())[-1] else "refused"

    def waiting(self):
        """The numbers of the tries that wait."""
        return tuple([number for number, answer in enumerate(self._answers) if answer == WAITS])

    def yes(self, number):
        """The leave of a try that waits."""
        # a bool is equal to a number, and is none
        if not is_below(number, len(self._tries)) or number not in self.waiting():
            raise InvalidIndex(-1)
        self._answers[number] = YES

    def no(self, numbers):
        """A No to a lot of tries that wait, put right: (price, what changed, tries that come out otherwise)."""
        numbers = self._need_lot(numbers)
        ahead = self.world()
        done_ahead = self._done()
        for number in numbers:
            self._answers[number] = NO
        now = self.world()
        done_now = self._done()
        price = world_price(price_table(self._desk), self._things, ahead, now)
        self._paid += price
        others = tuple([number for number in sorted(done_now) if done_now[number] != done_ahead[number]])
        return (price, unlike_things(ahead, now), others)

    def world(self):
        """The world as it is."""
        return world_behind(self._desk, self.history())

    def history(self):
        """The history of all tries not struck."""
        return (tuple(self._things), tuple([self._tries[number][1] for number in self._not_struck()]))

    def bill(self):
        """The greatest sum of prices of Nos to any of what waits."""
        return bill(self._desk, self._ledger())

    def paid(self):
        """The sum of all prices so far."""
        return self._paid

    def log(self):
        """For each try (agent, tool, things, its answer, whether it is done as things stand)."""
        done = self._done()
        rows = []
        for number, (agent, (tool, members)) in enumerate(self._tries):
            rows.append((agent, tool, members, self._answers[number], done.get(number, False)))
        return tuple(rows)

    def frees(self, agent, tool, things):
        """All least lots of tries such that a yes to each of them lets the try; it is the next one itself."""
        one = self._need_try(agent, tool, things)
        lots = least_yeses(self._desk, self._ledger(), one, tool in self._rules, self._bound)
        numbers = self.waiting() + (len(self._tries),)
        return tuple([tuple([numbers[place] for place in lot]) for lot in lots])

    def asks(self, agent, tool, things):
        """How many answers are enough at worst to let the try."""
        one = self._need_try(agent, tool, things)
        return asks_needed(self._desk, self._ledger(), one, tool in self._rules, self._bound)

    def _need_try(self, agent, tool, things):
        """The try in tuples, if it is one."""
        if not is_name(agent):
            raise InvalidTry(0)
        if not is_below(tool, len(self._desk.tools)):
            raise InvalidTry(1)
        one = right_try(self._desk, self._things, (tool, things))
        if one is None:
            raise InvalidTry(2)
        return one

    def _need_lot(self, value):
        """The lot of tries that wait in a tuple, if the value is one."""
        if not is_row(value):
            raise InvalidLot(-1)
        waiting = self.waiting()
        told = []
        for at, number in enumerate(value):
            if not is_below(number, len(self._tries)) or number not in waiting or (told and number <= told[-1]):
                raise InvalidLot(at)
            told.append(number)
        return tuple(told)

    def _not_struck(self):
        return [number for number, answer in enumerate(self._answers) if answer != NO]

    def _done(self):
        """For each try that isn't struck whether it is done as things stand."""
        return {number: done for number, done in zip(self._not_struck(), outcomes(self._desk, self.history()))}

    def _ledger(self):
        places = [place for place, number in enumerate(self._not_struck()) if self._answers[number] == WAITS]
        return ledger_of(self._desk, self.history(), places)
