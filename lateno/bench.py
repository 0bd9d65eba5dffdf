"""The bench: a desk, rules and a room, all by commands in words."""

from lateno.crossings import least_lots
from lateno.desks import kind_number, tool_number
from lateno.errors import InvalidCommand, InvalidSize, InvalidText, LateError
from lateno.guards import BAD, GROWS, RIGHT, value_of
from lateno.live import Live
from lateno.silence import is_silent, rule_serves
from lateno.texts import desk_text, number_of, read_desk

NOTHING = "nothing"


class Bench:
    """A bench takes commands; it changes."""

    def __init__(self):
        self._desk = None
        # for each tool that runs ahead the tools that wait meanwhile
        self._rules = {}
        self._room = None

    def say(self, command):
        """The answer to a command."""
        if not isinstance(command, str):
            raise InvalidCommand()
        lines = [line.split(" ") for line in command.split("\n")]
        if lines[0][0] == "kind":
            return self._take_desk(command)
        if len(lines) > 1 or self._desk is None:
            raise InvalidCommand()
        word = lines[0][0]
        rest = lines[0][1:]
        if word == "ahead":
            return self._take_rule(rest)
        if word == "open":
            return self._take_room(rest)
        if word in ("text", "rules", "silent", "worst", "guards"):
            return _desk_answer(self._desk, self._told_rules(), word, rest)
        if self._room is None:
            raise InvalidCommand()
        try:
            return _room_answer(self._desk, self._room, word, rest)
        except LateError:
            raise InvalidCommand()

    def _take_desk(self, text):
        try:
            desk = read_desk(text)
        except InvalidText as error:
            return f"line {error.at}"
        self._desk = desk
        self._rules = {}
        self._room = None
        return "desk"

    def _take_rule(self, names):
        tools = [_tool_of(self._desk, name) for name in names]
        waits = sorted(tools[1:])
        if not tools or any([one == other for one, other in zip(waits, waits[1:])]):
            raise InvalidCommand()
        self._rules[tools[0]] = tuple(waits)
        return "serves" if rule_serves(self._desk, tools[0], waits) else "fails"

    def _take_room(self, rest):
        if len(rest) > 1:
            raise InvalidCommand()
        bound = _number_in(rest[0]) if rest else None
        self._room = Live(self._desk, self._told_rules(), bound)
        return "open"

    def _told_rules(self):
        return tuple([(tool, self._rules[tool]) for tool in sorted(self._rules)])


def _desk_answer(desk, rules, word, rest):
    """The answer to a command that asks of a desk and its rules."""
    if len(rest) != (1 if word in ("worst", "guards") else 0):
        raise InvalidCommand()
    if word == "text":
        return desk_text(desk)
    if word == "rules":
        lines = [f"{desk.tools[tool][0]} : {_told_tools(desk, waits)}" for tool, waits in rules]
        return _told_lines(lines, "none")
    if word == "silent":
        return "silent" if is_silent(desk, rules) else "loud"
    tool = _tool_of(desk, rest[0])
    if word == "worst":
        return _told_value(value_of(desk, (), tool, ()))
    lots = [[other for _, other in lot] for lot in least_lots(desk, (), tool, RIGHT)]
    return _told_lines([_told_tools(desk, lot) for lot in lots], "nothing serves")


def _room_answer(desk, room, word, rest):
    """The answer to a command in a room; it raises errors for what isn't there."""
    if word in ("world", "waits", "log", "bill", "paid"):
        if rest:
            raise InvalidCommand()
        return _room_told(desk, room, word)
    if not rest:
        raise InvalidCommand()
    if word == "thing":
        return _thing(desk, room, rest)
    if word == "yes":
        return _yes(room, rest)
    if word == "no":
        return _no(desk, room, [_number_in(one) for one in rest])
    if word not in ("try", "frees", "asks") or len(rest) < 2:
        raise InvalidCommand()
    tool = _tool_of(desk, rest[1])
    return _asked(room, word, rest[0], tool, [_number_in(one) for one in rest[2:]])


def _room_told(desk, room, word):
    """What a room tells of itself."""
    if word == "bill":
        return str(room.bill())
    if word == "paid":
        return str(room.paid())
    if word == "world":
        kinds = room.history()[0]
        lines = [f"{desk.kinds[kind][0]} {state}" for kind, state in zip(kinds, room.world())]
    elif word == "waits":
        lines = [str(number) for number in room.waiting()]
    else:
        lines = [_told_try(desk, row) for row in room.log()]
    return _told_lines(lines, NOTHING)


def _thing(desk, room, rest):
    if len(rest) != 1:
        raise InvalidCommand()
    return f"thing {room.thing(kind_number(desk, rest[0]))}"


def _yes(room, rest):
    if len(rest) != 1:
        raise InvalidCommand()
    number = _number_in(rest[0])
    room.yes(number)
    return f"yes {number}"


def _no(desk, room, numbers):
    kinds = room.history()[0]
    price, changed, others = room.no(numbers)
    lines = [f"price {price}"]
    lines.extend([f"thing {thing} {desk.kinds[kinds[thing]][0]} {x} {y}" for thing, x, y in changed])
    if others:
        lines.append(f"otherwise {_told_numbers(others)}")
    return "\n".join(lines)


def _asked(room, word, agent, tool, things):
    """The answer to a try, or to what is asked of one."""
    if word == "try":
        number = len(room.log())
        answer = room.ask(agent, tool, things)
        return f"{number} {answer}" if answer in ("done", "refused") else answer
    try:
        if word == "asks":
            return str(room.asks(agent, tool, things))
        lots = room.frees(agent, tool, things)
    except InvalidSize:
        return "full"
    return _told_lines([_told_numbers(lot) for lot in lots], NOTHING)


def _told_try(desk, row):
    agent, tool, things, answer, done = row
    stands = "struck" if answer == "no" else "done" if done else "refused"
    return f"{agent} {desk.tools[tool][0]} {_told_numbers(things)} : {answer} {stands}"


def _told_value(value):
    if value == BAD:
        return "bad"
    return "endless" if value == GROWS else str(value[1])


def _told_tools(desk, tools):
    return " ".join([desk.tools[tool][0] for tool in tools]) if tools else "none"


def _told_numbers(numbers):
    return " ".join([str(number) for number in numbers]) if numbers else "none"


def _told_lines(lines, nothing):
    """The lines as a text, or a word for none."""
    return "\n".join(lines) if lines else nothing


def _tool_of(desk, name):
    """The number of the tool with this name."""
    tool = tool_number(desk, name)
    if tool == -1:
        raise InvalidCommand()
    return tool


def _number_in(word):
    """The number that a word tells."""
    number = number_of(word)
    if number is None:
        raise InvalidCommand()
    return number
