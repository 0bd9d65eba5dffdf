"""[54]: a bench's life, command by command."""

import collections
import re
import unittest

from lateno.bench import Bench
from lateno.crossings import least_lots
from lateno.desks import Desk
from lateno.errors import InvalidCommand, InvalidText
from lateno.reaching import is_safe
from lateno.silence import is_silent, rule_serves
from lateno.tables import worst_of
from lateno.texts import desk_text, read_desk
from ledger_samples import bill_again, random_room
from room_samples import Room
from samples import LOCK, MAIL, Case, odd_values, random_try
from table_samples import BOUGHT, COPIED, PRICE

MAIL_TEXT = "kind mail 3\ntool sign mail\nrow 0 : 1\ntool send mail\nrow 1 : 2\nrepair mail 1 0 1\nrepair mail 2 0 3"


class Refused(Exception):
    """What the bench told again raises for no command."""


class BenchAgain:
    """[54] told again; rooms by Room."""

    def __init__(self):
        self.desk, self.rules, self.room = None, {}, None

    def say(self, command):
        if type(command) is not str:
            raise Refused()
        if re.match("kind( |\n|$)", command):
            try:
                self.desk = read_desk(command)
            except InvalidText as error:
                return "line " + str(error.at)
            self.rules, self.room = {}, None
            return "desk"
        if "\n" in command or self.desk is None:
            raise Refused()
        word, *rest = command.split(" ")
        call = getattr(self, "do_" + word, None) if re.fullmatch("[a-z]+", word) else None
        if call is None or (word in ROOM_WORDS and self.room is None):
            raise Refused()
        return call(rest)

    def tool(self, name):
        names = [tool[0] for tool in self.desk.tools]
        if name not in names:
            raise Refused()
        return names.index(name)

    def number(self, word):
        if not re.fullmatch("0|[1-9][0-9]{0,8}", word) or not word.isascii():
            raise Refused()
        return int(word)

    def none(self, rest):
        if rest:
            raise Refused()

    def one(self, rest):
        if len(rest) != 1:
            raise Refused()
        return rest[0]

    def tools_told(self, tools):
        return " ".join(self.desk.tools[tool][0] for tool in tools) or "none"

    def do_text(self, rest):
        self.none(rest)
        return desk_text(self.desk)

    def do_ahead(self, rest):
        tools = [self.tool(name) for name in rest]
        if not tools or len(set(tools[1:])) < len(tools[1:]):
            raise Refused()
        self.rules[tools[0]] = tuple(sorted(tools[1:]))
        return "serves" if rule_serves(self.desk, tools[0], self.rules[tools[0]]) else "fails"

    def do_rules(self, rest):
        self.none(rest)
        return "\n".join(self.desk.tools[tool][0] + " : " + self.tools_told(self.rules[tool]) for tool in sorted(self.rules)) or "none"

    def do_silent(self, rest):
        self.none(rest)
        return "silent" if is_silent(self.desk, sorted(self.rules.items())) else "loud"

    def do_worst(self, rest):
        tool = self.tool(self.one(rest))
        worst = worst_of(self.desk, tool, PRICE)
        return str(worst) if worst is not None else "endless" if is_safe(self.desk, tool) else "bad"

    def do_guards(self, rest):
        lots = least_lots(self.desk, (), self.tool(self.one(rest)), ("right",))
        return "\n".join(self.tools_told([guard[1] for guard in lot]) for lot in lots) or "nothing serves"

    def do_open(self, rest):
        bound = self.number(self.one(rest)) if rest else None
        self.room = Room(self.desk, sorted(self.rules.items()), bound)
        return "open"

    def do_thing(self, rest):
        names = [kind[0] for kind in self.desk.kinds]
        if self.one(rest) not in names:
            raise Refused()
        self.room.things.append(names.index(rest[0]))
        return "thing " + str(len(self.room.things) - 1)

    def asked(self, rest):
        if len(rest) < 2 or not re.fullmatch("[a-z]{1,8}", rest[0]):
            raise Refused()
        tool = self.tool(rest[1])
        members = tuple(self.number(word) for word in rest[2:])
        roles = self.desk.tools[tool][1]
        if len(members) != len(roles) or len(set(members)) < len(members):
            raise Refused()
        if any(member >= len(self.room.things) or self.room.things[member] != kind for member, kind in zip(members, roles)):
            raise Refused()
        return rest[0], tool, members

    def do_try(self, rest):
        found = self.room.ask(*self.asked(rest))
        return found if found in ("rule", "full", "held") else str(len(self.room.log) - 1) + " " + found

    def full(self, tool):
        return tool in self.room.rules and len(self.room.waiting()) == 6

    def do_frees(self, rest):
        _, tool, members = self.asked(rest)
        if self.full(tool):
            return "full"
        return "\n".join(" ".join(str(number) for number in lot) or "none" for lot in self.room.frees(tool, members))

    def do_asks(self, rest):
        _, tool, members = self.asked(rest)
        return "full" if self.full(tool) else str(self.room.asks(tool, members))

    def do_yes(self, rest):
        number = self.number(self.one(rest))
        if number not in self.room.waiting():
            raise Refused()
        self.room.answer(number, "yes")
        return "yes " + str(number)

    def do_no(self, rest):
        numbers = [self.number(word) for word in rest]
        if not numbers or numbers != sorted(set(numbers)) or not set(numbers) <= set(self.room.waiting()):
            raise Refused()
        price, changed, others = self.room.no(numbers)
        lines = ["price " + str(price)]
        lines += [" ".join(["thing", str(thing), self.desk.kinds[self.room.things[thing]][0], str(x), str(y)]) for thing, x, y in changed]
        return "\n".join(lines + ["otherwise " + " ".join(str(number) for number in others)] * bool(others))

    def do_world(self, rest):
        self.none(rest)
        lines = [self.desk.kinds[kind][0] + " " + str(state) for kind, state in zip(self.room.things, self.room.led()[0])]
        return "\n".join(lines) or "nothing"

    def do_waits(self, rest):
        self.none(rest)
        return "\n".join(str(number) for number in self.room.waiting()) or "nothing"

    def do_log(self, rest):
        self.none(rest)
        lines = []
        for agent, tool, members, answer, done in self.room.told():
            stands = "struck" if answer == "no" else "done" if done else "refused"
            lines.append(" ".join([agent, self.desk.tools[tool][0]] + [str(member) for member in members] + [":", answer, stands]))
        return "\n".join(lines) or "nothing"

    def do_bill(self, rest):
        self.none(rest)
        return str(bill_again(self.desk, self.room.ledger()))

    def do_paid(self, rest):
        self.none(rest)
        return str(self.room.paid)


ROOM_WORDS = ("thing", "try", "frees", "asks", "yes", "no", "world", "waits", "log", "bill", "paid")
WORDS = ROOM_WORDS + ("text", "ahead", "rules", "silent", "worst", "guards", "open")


def random_command(rng, again):
    """A command that is often right where the bench told again stands."""
    desk, room = again.desk, again.room
    if desk is None or rng.random() < 0.01:
        return desk_text(random_room(rng, roles=2))
    tools, kinds = [tool[0] for tool in desk.tools], [kind[0] for kind in desk.kinds]
    word = rng.choice(WORDS + ("try",) * 9 + ("thing",) * 3 + ("no", "yes", "frees", "asks"))
    if room is None and word in ROOM_WORDS:
        word = "open" if again.rules else "ahead"
    if word == "ahead":
        return " ".join([word, rng.choice(tools)] + rng.sample(tools, rng.choice([0, 0, 1, len(tools)])))
    if word in ("worst", "guards"):
        return word + " " + rng.choice(tools)
    if word == "open":
        return "open" + rng.choice(["", "", " 0", " 3", " 9", " 999999999"]) if room is None or rng.random() < 0.05 else "world"
    if word == "thing":
        return "thing " + rng.choice(kinds) if len(room.things) < 4 else "world"
    if word in ("try", "frees", "asks"):
        one = random_try(rng, desk, room.things) if room.things else None
        if one is None or len(room.waiting()) > 3:
            return "waits"
        return " ".join([word, rng.choice(["ann", "bob"]), desk.tools[one[0]][0]] + [str(member) for member in one[1]])
    if word in ("yes", "no"):
        waiting = room.waiting()
        if not waiting:
            return "log"
        some = [str(number) for number in waiting if rng.random() < 0.5] or [str(waiting[0])]
        return word + " " + " ".join(some if word == "no" else some[:1])
    return word


def spoilt_command(rng, command):
    """A command with something in it changed; mostly none any more."""
    turn = rng.randrange(9)
    words = command.split(" ")
    at = rng.randrange(len(words))
    if turn == 0:
        return command + " "
    if turn == 1:
        return command.replace(" ", "  ", 1)
    if turn == 2:
        return command + rng.choice(["\n", "\t", " 0", " 00", " x", " -1", "\nrules", "."])
    if turn == 3:
        return " ".join(words[:at] + words[at + 1:])
    if turn == 4:
        return " ".join(words[:at] + [words[at]] + words[at:])
    if turn == 5:
        return " ".join(words[:at] + [rng.choice(["0", "1", "7", "01", "1000000000", "sign", "ka", "ta", "", "Ann", "none", ":"])] + words[at + 1:])
    if turn == 6:
        return rng.choice([" " + command, command.upper(), command[:-1], command.split(" ")[0], "help", "", " ", "kindly", "kind", "kind\n" + command])
    if turn == 7:
        return rng.choice(odd_values() + [command.encode(), [command], (command,)])
    return " ".join(words[:1] + words[1:][::-1])


class ByHand(Case):
    def says(self, bench, *told):
        for command, answer in told:
            self.same(bench.say(command), answer)

    def refuses(self, bench, *commands):
        for command in commands:
            with self.assertRaises(InvalidCommand) as caught:
                bench.say(command)
            self.assertIs(type(caught.exception), InvalidCommand)

    def test_a_life(self):
        bench = Bench()
        self.refuses(bench, "text", "open", "rules", "world", "silent", "worst sign", "", "desk")
        self.says(
            bench, (MAIL_TEXT, "desk"), ("text", MAIL_TEXT), ("rules", "none"), ("silent", "silent"), ("worst sign", "bad"), ("worst send", "bad"),
            ("guards sign", "sign\nsend"), ("guards send", "nothing serves"), ("ahead sign", "fails"), ("rules", "sign : none"), ("silent", "loud"),
            ("ahead send sign send", "fails"), ("ahead sign send", "serves"), ("rules", "sign : send\nsend : sign send"), ("silent", "loud"),
        )
        self.refuses(bench, "world", "thing mail", "bill", "paid", "log", "waits", "yes 0", "no 0", "try ann sign 0", "frees ann sign 0", "asks ann sign 0")
        self.says(
            bench, ("open", "open"), ("world", "nothing"), ("waits", "nothing"), ("log", "nothing"), ("bill", "0"), ("paid", "0"),
            ("thing mail", "thing 0"), ("thing mail", "thing 1"), ("try ann sign 0", "0 done"), ("try bob send 0", "rule"), ("try bob sign 0", "1 refused"),
            ("world", "mail 1\nmail 0"), ("waits", "0\n1"), ("log", "ann sign 0 : waits done\nbob sign 0 : waits refused"), ("bill", "1"),
            ("frees bob sign 1", "none"), ("asks bob sign 1", "0"), ("no 0", "price 0\notherwise 1"), ("log", "ann sign 0 : no struck\nbob sign 0 : waits done"),
            ("yes 1", "yes 1"), ("waits", "nothing"), ("try bob send 0", "held"), ("frees bob send 0", "2"), ("asks bob send 0", "1"),
            ("try ann sign 1", "2 done"), ("no 2", "price 1\nthing 1 mail 1 0"), ("paid", "1"), ("world", "mail 1\nmail 0"),
        )

    def test_a_desk_that_is_bought(self):
        bench = Bench()
        self.says(bench, (desk_text(BOUGHT), "desk"), ("worst sign", "3"), ("worst send", "2"), ("guards sign", "none"), ("ahead sign", "serves"),
                  ("ahead send", "serves"), ("silent", "silent"), ("open 1", "open"), ("thing mail", "thing 0"), ("try ann sign 0", "0 done"),
                  ("try ann send 0", "held"), ("frees ann send 0", "0 1"), ("asks ann send 0", "2"), ("open", "open"), ("world", "nothing"),
                  ("thing mail", "thing 0"), ("try ann sign 0", "0 done"), ("try ann send 0", "1 done"), ("try bob sign 0", "2 refused"),
                  ("bill", "3"), ("no 0 2", "price 3\nthing 0 mail 2 0\notherwise 1"), ("paid", "3"), ("bill", "0"))
        self.says(bench, (desk_text(COPIED), "desk"), ("worst sign", "endless"), ("worst copy", "endless"), ("guards sign", "none"), ("rules", "none"))

    def test_a_new_desk_ends_rules_and_room(self):
        bench = Bench()
        self.says(bench, (MAIL_TEXT, "desk"), ("ahead sign", "fails"), ("open", "open"), ("thing mail", "thing 0"))
        # what is no desk does nothing
        self.says(bench, ("kind mail 7", "line 0"), ("kind", "line 0"), (MAIL_TEXT + "\n", "line 7"), ("kind a 2\ntool t b", "line 1"),
                  ("world", "mail 0"), ("rules", "sign : none"), ("text", MAIL_TEXT))
        self.says(bench, ("kind a 2", "desk"), ("rules", "none"), ("silent", "silent"), ("text", "kind a 2"))
        self.refuses(bench, "world", "thing a", "ahead sign", "worst sign", "guards sign")
        self.says(bench, ("open", "open"), ("thing a", "thing 0"), ("world", "a 0"))

    def test_rules_of_a_room_stay(self):
        bench = Bench()
        self.says(bench, (MAIL_TEXT, "desk"), ("ahead sign send", "serves"), ("open", "open"), ("thing mail", "thing 0"), ("ahead sign", "fails"),
                  ("rules", "sign : none"), ("try ann sign 0", "0 done"), ("try ann send 0", "rule"), ("open", "open"), ("thing mail", "thing 0"),
                  ("try ann sign 0", "0 done"), ("try ann send 0", "1 done"))

    def test_a_seventh(self):
        bench = Bench()
        self.says(bench, ("kind a 2\ntool none a\ntool set a\nrow 0 : 1\nrepair a 1 0 1", "desk"), ("ahead none", "serves"), ("ahead set", "serves"),
                  ("guards none", "none"), ("worst none", "0"), ("open 0", "open"), ("thing a", "thing 0"))
        for number in range(6):
            self.says(bench, ("try ann none 0", f"{number} refused"))
        self.says(bench, ("try ann none 0", "full"), ("frees ann set 0", "full"), ("asks ann set 0", "full"), ("waits", "0\n1\n2\n3\n4\n5"),
                  ("no 0 5", "price 0"), ("try ann set 0", "held"), ("frees ann set 0", "6"), ("asks ann set 0", "1"),
                  ("log", "\n".join(f"ann none 0 : {'no struck' if number in (0, 5) else 'waits refused'}" for number in range(6))))
        self.refuses(bench, "frees ann set 1", "asks ann set", "frees ann set 0 0", "asks Ann set 0", "try toolongname set 0")

    def test_no_commands(self):
        bench = Bench()
        self.says(bench, (MAIL_TEXT, "desk"), ("ahead sign", "fails"), ("open 5", "open"), ("thing mail", "thing 0"), ("try ann sign 0", "0 done"))
        told = [bench.say(word) for word in ("text", "rules", "world", "waits", "log", "bill", "paid")]
        self.refuses(bench, *odd_values())
        self.refuses(
            bench, "", " ", "text ", " text", "text text", "Text", "help", "rules 1", "silent sign", "ahead", "ahead sing", "ahead sign send send",
            "ahead sign  send", "ahead sign 0", "ahead sign none", "worst", "worst sign send", "worst 0", "guards", "guards sign sign", "open 05",
            "open -1", "open x", "open 1000000000", "open 1 2", "open ", "thing", "thing box", "thing 0", "thing mail mail", "try", "try ann",
            "try ann sign", "try ann sign 1", "try ann sign 00", "try ann sign 0 0", "try ann sing 0", "try Ann sign 0", "try a1 sign 0", "try sign 0",
            "frees", "frees ann", "frees ann sign 1", "asks ann sign x", "yes", "yes 1", "yes 0 0", "yes -1", "yes zero", "no", "no 1", "no 0 0",
            "no 0 1", "no 00", "world 0", "waits ", "log log", "bill 0", "paid x", "text\n", "world\nworld", "rules\t", "desk", "room", "\nkind mail 3",
            " kind mail 3", "kinds mail 3", "KIND mail 3",
        )
        self.same([bench.say(word) for word in ("text", "rules", "world", "waits", "log", "bill", "paid")], told)

    def test_benches_stand_alone(self):
        one, other = Bench(), Bench()
        self.says(one, (MAIL_TEXT, "desk"), ("ahead sign", "fails"))
        self.refuses(other, "text", "rules")
        self.says(other, (desk_text(LOCK), "desk"), ("rules", "none"), ("text", desk_text(LOCK)))
        self.says(one, ("text", MAIL_TEXT), ("rules", "sign : none"))
        self.same(one.say(command="silent"), "loud")
        with self.assertRaises(TypeError):
            iter(one)


class Told(Case):
    def test_sessions(self):
        rng = self.rng(1)
        seen = collections.Counter()
        for _ in range(900):
            bench, again = Bench(), BenchAgain()
            for _ in range(rng.randint(20, 120)):
                command = random_command(rng, again)
                if rng.random() < 0.3:
                    command = spoilt_command(rng, command)
                try:
                    want = again.say(command)
                except Refused:
                    with self.assertRaises(InvalidCommand):
                        bench.say(command)
                    seen["refused"] += 1
                    continue
                self.same(bench.say(command), want)
                seen[command.split(" ")[0].split("\n")[0]] += 1
                seen["answer " + want.split(" ")[0].split("\n")[0]] += 1
                seen["otherwise"] += "\notherwise" in want
                seen["thing told"] += "\nthing" in want
        for word in WORDS + ("kind", "refused", "otherwise", "thing told"):
            self.assertGreater(seen[word], 10, word)
        for word in ("line", "desk", "serves", "fails", "silent", "loud", "bad", "endless", "open", "thing", "rule", "held", "nothing", "none", "price"):
            self.assertGreater(seen["answer " + word], 5, word)

    def test_what_is_refused_leaves_no_trace(self):
        rng = self.rng(2)
        wrong = ["", " ", "help", "text ", "open x", "open 1 1", "ahead", "ahead zz", "try ann", "try ann zz 0", "try ann ta 99", "no", "no 99", "yes 99",
                 "thing zz", "world 0", "kindly", None, 0, ["text"], "text\ntext"]
        for _ in range(60):
            one, other, again = Bench(), Bench(), BenchAgain()
            for _ in range(60):
                command = random_command(rng, again)
                want = again.say(command)
                for _ in range(2):
                    with self.assertRaises(InvalidCommand):
                        other.say(rng.choice(wrong))
                self.same([one.say(command), other.say(command)], [want, want])


class Desks(Case):
    def test_all_desks_are_kept(self):
        rng = self.rng(3)
        for _ in range(60):
            desk = random_room(rng)
            bench = Bench()
            self.same(bench.say(desk_text(desk)), "desk")
            self.same(bench.say("text"), desk_text(desk))
            for name, _, _ in desk.tools:
                again = BenchAgain()
                again.say(desk_text(desk))
                self.same(bench.say("worst " + name), again.say("worst " + name))
        self.same(Bench().say(desk_text(Desk(MAIL.kinds, (), ()))), "desk")


if __name__ == "__main__":
    unittest.main()
