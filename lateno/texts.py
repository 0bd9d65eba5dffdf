"""Desks and histories as texts, line by line, and read again."""

from lateno.desks import Desk, MOST_KINDS, MOST_TOOLS, fits_as_tool, kind_number, next_kind, next_repair, next_row
from lateno.desks import number_of_name, tool_number
from lateno.errors import InvalidText
from lateno.worlds import need_history, right_try

MOST_FIGURES = 9


def desk_text(desk):
    """The text that tells a desk."""
    lines = [f"kind {name} {many}" for name, many in desk.kinds]
    for name, roles, rows in desk.tools:
        lines.append(_told_words(f"tool {name}", [desk.kinds[kind][0] for kind in roles]))
        lines.extend([_row_line(before, behind) for before, behind in rows])
    for kind, x, y, price in desk.repairs:
        lines.append(_told_words("repair", [desk.kinds[kind][0], x, y, price]))
    return "\n".join(lines)


def read_desk(text):
    """The desk that has this text."""
    kinds = []
    tools = []
    repairs = []
    for at, words in enumerate(_lines_of(text)):
        if not _take_line(kinds, tools, repairs, words):
            raise InvalidText(at)
    return Desk(kinds, tools, repairs)


def history_text(desk, history):
    """The text that tells a history of the desk."""
    things, tries = need_history(desk, history)
    lines = [_told_words("things", [desk.kinds[kind][0] for kind in things])]
    lines.extend([_told_words(desk.tools[tool][0], members) for tool, members in tries])
    return "\n".join(lines)


def read_history(desk, text):
    """The history of the desk that has this text."""
    lines = _lines_of(text)
    things = [kind_number(desk, name) for name in lines[0][1:]]
    if lines[0][0] != "things" or -1 in things:
        raise InvalidText(0)
    tries = []
    for at, words in enumerate(lines[1:], start=1):
        members = [number_of(word) for word in words[1:]]
        one = right_try(desk, things, (tool_number(desk, words[0]), members))
        if one is None:
            raise InvalidText(at)
        tries.append(one)
    return (tuple(things), tuple(tries))


def number_of(word):
    """The number that a word tells, None if it tells none."""
    if not 1 <= len(word) <= MOST_FIGURES or (word[0] == "0" and word != "0"):
        return None
    # isdigit() would let in figures beyond 0 to 9
    return int(word) if all(["0" <= figure <= "9" for figure in word]) else None


def _lines_of(text):
    """For each line of a text its words."""
    if not isinstance(text, str):
        raise InvalidText(-1)
    # not splitlines(), which also parts lines at other signs than a newline
    return [line.split(" ") for line in text.split("\n")]


def _told_words(word, rest):
    return " ".join([word] + [str(one) for one in rest])


def _row_line(before, behind):
    return _told_words("row", list(before) + [":"] + list(behind))


def _take_line(kinds, tools, repairs, words):
    """Adds what a line tells; whether it may stand behind the lines so far."""
    word = words[0]
    if word == "kind":
        return not tools and not repairs and _take_kind(kinds, words)
    if word == "tool":
        return not repairs and _take_tool(kinds, tools, words)
    if word == "row":
        return bool(tools) and not repairs and _take_row(kinds, tools[-1], words)
    return word == "repair" and _take_repair(kinds, repairs, words)


def _take_kind(kinds, words):
    if len(words) != 3 or len(kinds) == MOST_KINDS:
        return False
    kind = next_kind(kinds, (words[1], number_of(words[2])))
    if kind is None:
        return False
    kinds.append(kind)
    return True


def _take_tool(kinds, tools, words):
    if len(words) < 2 or len(tools) == MOST_TOOLS:
        return False
    roles = [number_of_name(kinds, name) for name in words[2:]]
    if not fits_as_tool(kinds, tools, words[1], roles):
        return False
    tools.append((words[1], roles, []))
    return True


def _take_row(kinds, tool, words):
    _, roles, rows = tool
    middle = len(roles) + 1
    if len(words) <= middle or words[middle] != ":":
        return False
    before = [number_of(word) for word in words[1:middle]]
    behind = [number_of(word) for word in words[middle + 1:]]
    row = next_row(kinds, roles, rows, (before, behind))
    if row is None:
        return False
    rows.append(row)
    return True


def _take_repair(kinds, repairs, words):
    if len(words) != 5:
        return False
    numbers = [number_of(word) for word in words[2:]]
    repair = next_repair(kinds, repairs, [number_of_name(kinds, words[1])] + numbers)
    if repair is None:
        return False
    repairs.append(repair)
    return True
