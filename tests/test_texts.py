"""[6], [7]: desks and histories as texts."""

import re
import unittest

from lateno.desks import Desk
from lateno.errors import InvalidDesk, InvalidHistory, InvalidText
from lateno.texts import desk_text, history_text, read_desk, read_history
from lateno.worlds import need_history
from samples import COPY, LOCK, MAIL, Case, as_lists, odd_values, random_desk, random_history

DESK = Desk(
    (("mail", 3), ("tool", 2)),
    (
        ("sign", (0,), (((0,), (1,)), ((2,), (2,)))),
        ("kind", (0, 1, 0), (((0, 0, 0), (1, 1, 2)), ((0, 1, 0), (0, 1, 0)))),
        ("none", (1,), ()),
    ),
    ((0, 0, 1, 1000000), (0, 2, 0, 10), (1, 1, 0, 1)),
)
TEXT = """kind mail 3
kind tool 2
tool sign mail
row 0 : 1
row 2 : 2
tool kind mail tool mail
row 0 0 0 : 1 1 2
row 0 1 0 : 0 1 0
tool none tool
repair mail 0 1 1000000
repair mail 2 0 10
repair tool 1 0 1"""
LINES = TEXT.split("\n")
HISTORY = ((0, 1, 0), ((0, (0,)), (1, (2, 1, 0)), (0, (2,))))
TOLD = "things mail tool mail\nsign 0\nkind 2 1 0\nsign 2"

NUMBER = "(?:0|[1-9][0-9]{0,8})"
FORMS = (
    re.compile(f"kind ([a-z]{{1,8}}) ({NUMBER})", re.A),
    re.compile("tool ([a-z]{1,8})((?: [a-z]{1,8}){1,3})", re.A),
    re.compile(f"row((?: {NUMBER})+) :((?: {NUMBER})+)", re.A),
    re.compile(f"repair ([a-z]{{1,8}}) ({NUMBER}) ({NUMBER}) ({NUMBER})", re.A),
)


def desk_told_by(lines):
    """The desk whose text has just these lines, None if there is none; told again."""
    kinds, tools, repairs, names = [], [], [], []
    for line in lines:
        kind, tool, row, repair = [form.fullmatch(line) for form in FORMS]
        if kind:
            kinds.append((kind[1], int(kind[2])))
            names.append(kind[1])
        elif tool and set(tool[2].split()) <= set(names):
            tools.append((tool[1], [names.index(name) for name in tool[2].split()], []))
        elif row and tools:
            tools[-1][2].append(([int(x) for x in row[1].split()], [int(y) for y in row[2].split()]))
        elif repair and repair[1] in names:
            repairs.append((names.index(repair[1]), int(repair[2]), int(repair[3]), int(repair[4])))
        else:
            return None
    try:
        desk = Desk(kinds, tools, repairs)
    except InvalidDesk:
        return None
    return desk if desk_text(desk) == "\n".join(lines) else None


def history_told_by(desk, lines):
    """The history whose text has just these lines, None if there is none; told again."""
    kinds, tools = [kind[0] for kind in desk.kinds], [tool[0] for tool in desk.tools]
    if not re.fullmatch("things(?: [a-z]{1,8})*", lines[0]) or not set(lines[0].split()[1:]) <= set(kinds):
        return None
    things, tries = [kinds.index(name) for name in lines[0].split()[1:]], []
    for line in lines[1:]:
        told = re.fullmatch(f"([a-z]{{1,8}})((?: {NUMBER})+)", line)
        if not told or told[1] not in tools:
            return None
        tries.append((tools.index(told[1]), [int(one) for one in told[2].split()]))
    try:
        history = need_history(desk, (things, tries))
    except InvalidHistory:
        return None
    return history if history_text(desk, history) == "\n".join(lines) else None


def first_wrong(told_by, lines):
    """The first line up to which the lines are none that a text begins with; None for a right text."""
    for at in range(len(lines)):
        if told_by(lines[:at + 1]) is None:
            return at
    return None


def spoilt_lines(rng, lines):
    """The lines with one turned, put in, said twice, left out, moved, or a sign of one turned."""
    lines = list(lines)
    at, other = rng.randrange(len(lines)), rng.randrange(len(lines))
    turn = rng.randrange(9)
    if turn == 0:
        lines.insert(at, lines[other])
    elif turn == 1:
        del lines[at]
    elif turn == 2:
        lines[at], lines[other] = lines[other], lines[at]
    elif turn == 3:
        lines.insert(at, rng.choice(["", " ", "kind x 2", "tool x mail", "row 0 : 0", "repair mail 0 1 1", "rows 0 : 0"]))
    elif turn == 4:
        words = lines[at].split(" ")
        one, two = rng.randrange(len(words)), rng.randrange(len(words))
        words[one], words[two] = words[two], words[one]
        lines[at] = " ".join(words)
    elif turn == 5:
        words = lines[at].split(" ")
        words[rng.randrange(len(words))] = rng.choice(["", "0", "1", "00", "01", "-1", "+1", "7", "1000000000", "mail", ":", "x"])
        lines[at] = " ".join(words)
    elif turn == 6:
        words = lines[at].split(" ")
        one = rng.randrange(len(words))
        words[one:one + 1] = rng.choice([[], [words[one]] * 2, [words[one], ""]])
        lines[at] = " ".join(words)
    else:
        place = rng.randint(0, len(lines[at]))
        put = rng.choice(["", " ", "0", "1", "2", "a", "A", ":", "\t", ".", "\r", "\u0663", "\x0b"])
        lines[at] = lines[at][:place] + put + lines[at][place + rng.randint(0, 1):]
    return "\n".join(lines).split("\n")


class DeskTexts(Case):
    def wrong(self, at, lines):
        self.fails(InvalidText, at, read_desk, "\n".join(lines))

    def changed(self, at, line):
        self.wrong(at, LINES[:at] + [line] + LINES[at + 1:])
        self.wrong(at, LINES[:at] + [line])
        self.wrong(at, LINES[:at] + [line, "", "kind"])

    def test_line_by_line(self):
        self.same(desk_text(DESK), TEXT)
        self.same(desk_text(desk=MAIL), "kind mail 3\ntool sign mail\nrow 0 : 1\ntool send mail\nrow 1 : 2\n"
                                       "repair mail 1 0 1\nrepair mail 2 0 3")
        self.same(desk_text(COPY), "kind mail 2\ntool sign mail\nrow 0 : 1\ntool copy mail mail\nrow 1 0 : 1 1")
        self.same(desk_text(Desk((("a", 1),), (), ())), "kind a 1")

    def test_read_again(self):
        self.same(read_desk(TEXT).told, DESK.told)
        self.same(read_desk(text=TEXT).told, DESK.told)
        self.assertIsInstance(read_desk(TEXT), Desk)
        for many in range(1, len(LINES) + 1):
            self.same(desk_text(read_desk("\n".join(LINES[:many]))), "\n".join(LINES[:many]))
        rng = self.rng(1)
        for desk in [MAIL, LOCK, COPY] + [random_desk(rng, kinds=6, states=6, tools=20, roles=3, fill=0.1) for _ in range(60)]:
            self.same(read_desk(desk_text(desk)).told, desk.told)

    def test_no_string(self):
        for value in odd_values():
            if not isinstance(value, str):
                self.fails(InvalidText, -1, read_desk, value)
        self.fails(InvalidText, -1, read_desk, b"kind a 1")
        self.fails(InvalidText, -1, read_desk, LINES)

    def test_the_empty_text_and_empty_lines(self):
        self.wrong(0, [""])
        self.wrong(0, ["", "kind a 1"])
        self.wrong(0, [" "])
        self.wrong(12, LINES + [""])
        self.wrong(1, LINES[:1] + [""] + LINES[1:])

    def test_kind_lines(self):
        for line in ("kind", "kind tool", "kind 2 tool", "kind tool 2 2", "kind tool 0", "kind tool 7", "kind tool 02", "kind tool x",
                     "kind tool -1", "kind tool +2", "kind tool 1000000000", "kind  tool 2", "kind tool  2", "kind tool 2 ",
                     " kind tool 2", "Kind tool 2", "kinds tool 2", "kind Tool 2", "kind mail 2", "kind abcdefghi 2", "kind to1 2",
                     "kind tool 2.", "kind tool \u0662", "kind tool 2\r", "kind\ttool 2", "kind  2", "kind tool "):
            self.changed(1, line)
        self.wrong(0, ["mail 3"])

    def test_where_kinds_stand(self):
        for at in range(3, 13):
            self.wrong(at, LINES[:at] + ["kind x 2"] + LINES[at:])
        self.wrong(2, ["kind a 2", "repair a 1 0 1", "kind b 2"])
        self.wrong(2, ["kind a 2", "repair a 1 0 1", "tool t a"])
        self.wrong(2, ["kind a 2", "tool t a", "kind b 2"])
        six = [f"kind {name} 6" for name in "abcdef"]
        self.same(len(read_desk("\n".join(six)).kinds), 6)
        self.wrong(6, six + ["kind g 6"])

    def test_tool_lines(self):
        for line in ("tool", "tool sign", "tool sign x", "tool sign 0", "tool sign mail mail mail mail", "tool Sign mail", "tool s1 mail",
                     "tool abcdefghi mail", "tool sign  mail", "tool  sign mail", "tool sign mail ", " tool sign mail", "tools sign mail",
                     "tool  mail", "tool sign mail x", "tool sign sign", "tool sign mail\r"):
            self.changed(2, line)
        self.changed(5, "tool sign mail tool mail")
        self.wrong(0, LINES[2:])
        self.wrong(1, LINES[:1] + ["tool none tool"] + LINES[1:])
        self.wrong(10, LINES[:10] + ["tool last mail"] + LINES[10:])
        twenty = ["kind a 1"] + [f"tool t{letter} a" for letter in "abcdefghijklmnopqrst"]
        self.same(len(read_desk("\n".join(twenty)).tools), 20)
        self.wrong(21, twenty + ["tool u a"])

    def test_row_lines(self):
        for line in ("row", "row :", "row 2", "row 2 :", "row : 2", "row 2 2", "row 2 : 2 2", "row 2 2 : 2", "row 2 : 3", "row 3 : 2",
                     "row 2 : 02", "row 02 : 2", "row 2:2", "row 2 :2", "row  2 : 2", "row 2  : 2", "row 2 : 2 ", " row 2 : 2",
                     "row 2 : x", "row x : 2", "row 2 ; 2", "row 2 : -1", "row 0 : 2", "row 2 : 1000000000", "rows 2 : 2",
                     "row 2 : 2 :", "row \u0662 : 2", "row 2 : : 2"):
            self.changed(4, line)
        self.wrong(4, LINES[:3] + ["row 2 : 2", "row 0 : 1"] + LINES[5:])
        self.wrong(4, LINES[:4] + LINES[3:])
        self.wrong(7, LINES[:6] + [LINES[7], LINES[6]] + LINES[8:])
        for line in ("row 0 1 : 0 1", "row 0 1 0 : 0 1", "row 0 1 : 0 1 0", "row 0 1 0 0 : 0 1 0 0", "row 0 2 0 : 0 1 0",
                     "row 0 1 0 : 0 2 0", "row 0 1 0 0 1 0", "row 0 1 : 0 0 1 0"):
            self.changed(7, line)
        self.wrong(2, LINES[:2] + ["row 0 : 0"] + LINES[2:])
        self.wrong(10, LINES[:10] + ["row 0 : 0"] + LINES[10:])
        self.wrong(9, LINES[:9] + ["row 0 : 2"] + LINES[9:])
        self.same(read_desk("\n".join(LINES[:9] + ["row 0 : 1"] + LINES[9:])).tools[2][2], (((0,), (1,)),))

    def test_repair_lines(self):
        for line in ("repair", "repair mail", "repair mail 2 0", "repair mail 2 0 10 1", "repair x 2 0 10", "repair 0 2 0 10",
                     "repair mail 3 0 10", "repair mail 2 3 10", "repair mail 2 2 10", "repair mail 2 0 0", "repair mail 2 0 1000001",
                     "repair mail 2 0 010", "repair mail 02 0 10", "repair mail 2 0 -1", "repair mail 2 0 x", "repair  mail 2 0 10",
                     "repair mail 2 0 10 ", " repair mail 2 0 10", "repairs mail 2 0 10", "repair mail 0 1 10", "repair mail 0 0 1",
                     "repair mail 2 0 0000000010", "repair mail 2 0 1e1", "repair sign 2 0 10"):
            self.changed(10, line)
        self.wrong(10, LINES[:9] + [LINES[10], LINES[9], LINES[11]])
        self.wrong(11, LINES[:11] + LINES[10:])
        self.wrong(0, LINES[9:])
        self.same(read_desk("kind a 2\nrepair a 1 0 1000000").repairs, ((0, 1, 0, 1000000),))

    def test_the_first_wrong_line_is_told(self):
        self.wrong(1, [LINES[0], "kind", "kind", ""])
        self.wrong(3, LINES[:3] + ["row 0 : 9", "nothing"])

    def test_spoilt_texts_are_told_as_a_slow_judge_tells_them(self):
        rng = self.rng(2)
        texts = [LINES] + [desk_text(random_desk(rng)).split("\n") for _ in range(30)]
        right = 0
        for _ in range(3000):
            lines = spoilt_lines(rng, rng.choice(texts))
            at = first_wrong(desk_told_by, lines)
            if at is None:
                right += 1
                self.same(read_desk("\n".join(lines)).told, desk_told_by(lines).told)
            else:
                self.wrong(at, lines)
        self.assertGreater(right, 100)


class HistoryTexts(Case):
    def wrong(self, at, text):
        self.fails(InvalidText, at, read_history, DESK, text)

    def test_line_by_line_and_read_again(self):
        self.same(history_text(DESK, HISTORY), TOLD)
        self.same(history_text(desk=DESK, history=as_lists(HISTORY)), TOLD)
        self.same(history_text(DESK, ((), ())), "things")
        self.same(history_text(DESK, ((1,), ())), "things tool")
        self.same(read_history(DESK, TOLD), HISTORY)
        self.same(read_history(desk=DESK, text="things"), ((), ()))
        self.same(read_history(DESK, "things tool"), ((1,), ()))
        rng = self.rng(3)
        for _ in range(100):
            desk = random_desk(rng, roles=3)
            history = random_history(rng, desk, 13, 14)
            self.same(read_history(desk, history_text(desk, history)), history)

    def test_wrong_histories(self):
        self.fails(InvalidHistory, -1, history_text, DESK, None)
        self.fails(InvalidHistory, 1, history_text, DESK, ((0,), ((0, (0,)), (0, (1,)))))

    def test_no_string(self):
        for value in odd_values():
            if not isinstance(value, str):
                self.wrong(-1, value)

    def test_the_line_of_things(self):
        for line in ("", " ", "thing mail", "things ", "things  mail", "things mail ", " things mail", "things mail x", "things 0",
                     "things sign", "Things mail", "things mail\r", "mail"):
            self.wrong(0, line)
            self.wrong(0, line + "\nsign 0\nx")
        self.wrong(0, "sign 0\nthings mail")

    def test_the_lines_of_tries(self):
        for line in ("", " ", "sign", "sign ", "sign 1", "sign 3", "sign 00", "sign 02", "sign -1", "sign x", "sign 0 2", "sign 2 ",
                     "sign  2", " sign 2", "Sign 2", "mail 2", "kind 0 1", "kind 0 1 0", "kind 0 2 1", "kind 0 1 2 0", "x 0", "0",
                     "things mail", "sign \u0662", "sign 0000000002", "sign 1000000000", "sign 2\r", "none 0"):
            self.wrong(2, "things mail tool mail\nsign 0\n" + line)
            self.wrong(2, "things mail tool mail\nsign 0\n" + line + "\nsign 0\n")
        self.wrong(4, TOLD + "\n")
        self.wrong(1, "things\nsign 0")

    def test_a_number_of_nine_figures_is_read(self):
        many = Desk((("a", 1),), (("t", (0,), ()),), ())
        things = " ".join(["things"] + ["a"] * 11)
        self.same(read_history(many, things + "\nt 10"), ((0,) * 11, ((0, (10,)),)))
        self.fails(InvalidText, 1, read_history, many, things + "\nt 11")

    def test_spoilt_texts_are_told_as_a_slow_judge_tells_them(self):
        rng = self.rng(4)
        right = 0
        for _ in range(3000):
            desk = DESK if rng.random() < 0.3 else random_desk(rng, roles=3)
            lines = spoilt_lines(rng, history_text(desk, random_history(rng, desk)).split("\n"))
            at = first_wrong(lambda told: history_told_by(desk, told), lines)
            if at is None:
                right += 1
                self.same(read_history(desk, "\n".join(lines)), history_told_by(desk, lines))
            else:
                self.fails(InvalidText, at, read_history, desk, "\n".join(lines))
        self.assertGreater(right, 100)


if __name__ == "__main__":
    unittest.main()
