"""The desk: requests of each kind, their replies and refusals, beside a Board that is led deed by deed."""

import random
import re
import unittest

from lastpasted import desk, latest, shown, stacks, sure, texts
from lastpasted.board import Board
from lastpasted.errors import NoHistory, NoName, NoPhoto, NothingDone, NotOver, Twice
from tests.support import FAR, LONE, Case

START = ("paste a 1 6", "paste b 4 9", "paste c 2 5", "photo", "photo", "tell 0 4 a", "tell 1 4 c")
NAME, NUMBER, PHOTO = "[a-z]{1,8}", "(?:0|-?[1-9][0-9]*)", "(?:0|[1-9][0-9]*)"
PATTERNS = (f"paste {NAME} {NUMBER} {NUMBER}", f"tell {PHOTO} {NUMBER} (?:{NAME}|-)", f"know before {NAME} {NAME}",
            f"know (?:there|not) {PHOTO} {NAME}", "undo|photo|case|latest|surely|stacks", f"(?:there|not|look) {PHOTO}",
            f"slots {NAME}", f"before {NAME} {NAME}", f"(?:who|sure) {PHOTO} {NUMBER}",
            f"(?:hide|show|just) (?:-|{NAME}(?: {NAME})*)")
REQUESTS = ("paste a 1 6", "paste abcdefgh -7 10", "paste paste 0 0", "tell 0 4 a", "tell 12 -4 -", "know before a b",
            "know there 0 a", "know not 10 zz", "undo", "photo", "case", "there 0", "not 3", "slots a", "before a b",
            "before b a", "latest", "who 0 -4", "sure 1 4", "look 0", "hide -", "hide a", "show a b c", "just a c",
            "surely",
            "stacks", "just undo", "slots photo", "before there not")


def is_request_said(line):
    """What the document says of a request, by patterns."""
    if not any(re.fullmatch(pattern, line, re.ASCII) for pattern in PATTERNS) or len(line) > 400:
        return False
    words = line.split(" ")
    if words[0] == "paste":
        return int(words[2]) <= int(words[3])
    if words[0] in ("hide", "show", "just"):
        return words[1:] == sorted(set(words[1:]))
    if words[0] == "before" or words[:2] == ["know", "before"]:
        return words[-1] != words[-2]
    return True


def almost(line):
    """Lines that are almost this one."""
    yield line
    for at in range(len(line) + 1):
        for sign in " 0-+aA,\n\t9\u0663":
            yield line[:at] + sign + line[at:]
            yield line[:at] + sign + line[at + 1:]
        yield line[:at] + line[at + 1:]
        yield line[:at]
    words = line.split(" ")
    for at in range(len(words)):
        for word in ("-0", "01", "+1", "-", "", "a" * 9, "before", "not", "0", "-1", "1.0", "\u0661", "undo"):
            yield " ".join(words[:at] + [word] + words[at + 1:])
            yield " ".join(words[:at] + [word] + words[at:])
        yield " ".join(words[:at] + words[at + 1:])
    yield from (line.upper(), line.title(), line + " " + line, line + "\n" + line, " " + line, line + " ", line + "\n")


def names_said(names):
    return " ".join(names) if names else "-"


class Requests(Case):
    def test_requests(self):
        for line in REQUESTS:
            self.check_all_ways(desk.is_request, True, thing=line)

    def test_no_requests(self):
        for line in ("paste a 6 1", "hide b a", "there -1", "know before a a", "", " ", "photos", "undo now",
                     "paste a 1",
                     "paste a 1 6 7", "paste A 1 6", "paste a 01 6", "paste a +1 6", "paste a -0 6", "paste  a 1 6",
                     " paste a 1 6", "paste a 1 6 ", "Paste a 1 6", "paste - 1 6", "paste a 1 6\n",
                     "paste abcdefghi 1 6",
                     "tell 0 4", "tell 0 4 a b", "tell -1 4 a", "tell 0 a 4", "tell 0 4 A", "tell a", "tell -",
                     "know a b",
                     "know before a", "know before a 0", "know there a 0", "know not -1 a", "know -", "know", "undo 1",
                     "photo 0",
                     "case a", "latest a", "surely a", "stacks -", "there", "there a", "there 0 1", "not 01", "not -",
                     "slots",
                     "slots 0", "slots -", "slots a b", "before a", "before a a", "before a b c", "before 0 1", "who 0",
                     "who 0 a", "who -1 4", "who 0 4 a", "sure", "sure 0", "sure 0 +4", "look", "look -", "look a",
                     "look -0",
                     "hide", "hide ", "hide  -", "hide - a", "hide a -", "hide a a", "show", "show c b", "just a,b",
                     "just 0",
                     "just --", "snap", "case\n", "un do", "-", "0", "paste\ta 1 6", "there \u0660", "who 0 \u00b2"):
            self.check_all_ways(desk.is_request, False, thing=line)

    def test_other_things(self):
        for thing in LONE + (["undo"], ("undo",), b"undo", ("paste", "a", 1, 6)):
            self.check(desk.is_request(thing), False)

    def test_how_long(self):
        for line in ("paste a 0 " + "9" * 391, "tell 0 " + "9" * 392 + " a", "who " + "9" * 395 + " 0"):
            self.check(len(line), 401)
            self.check(desk.is_request(line), False)
        for line in ("paste a 0 " + "9" * 390, "tell 0 " + "9" * 391 + " a", "who " + "9" * 394 + " 0"):
            self.check(len(line), 400)
            self.check(desk.is_request(line), True)
        row = " ".join(["aa" + one + other for one in "abcdef" for other in "abcdefghijk"])
        self.check(desk.is_request("show " + row), True)
        self.check(desk.is_request("9" * 5000), False)
        self.check(desk.is_request("paste a 0 " + "9" * 5000), False)

    def test_almost_right(self):
        found = [0, 0]
        for line in REQUESTS:
            for other in almost(line):
                wanted = is_request_said(other)
                self.assertIs(desk.is_request(other), wanted, repr(other))
                found[wanted] += 1
        self.assertGreater(min(found), 500)


class Replies(Case):
    def reply(self, *lines):
        """The reply to the last of these requests, put behind those of START."""
        found = desk.replies("\n".join(START + lines))
        self.check(len(found), len(START) + len(lines))
        return found[-1]

    def test_empty(self):
        self.check_all_ways(desk.replies, [], text="")

    def test_all_ways(self):
        text = "\n".join(START + ("case",))
        wanted = ["done", "done", "done", "0", "1", "done", "done", "a 1 6, b 4 9, c 2 5 / 2 / 0 4 a, 1 4 c / -"]
        self.check_all_ways(desk.replies, wanted, text=text)
        desk.replies(text).append("x")
        self.check(desk.replies(text), wanted)

    def test_each_kind(self):
        for lines, wanted in (
                (("paste d 0 0",), "done"), (("tell 1 6 -",), "refused NoHistory"), (("tell 1 9 -",), "done"),
                (("know before a c",), "done"), (("know not 0 b",), "done"), (("know there 1 b",), "done"),
                (("undo",), "done"),
                (("photo",), "2"), (("undo", "undo", "undo", "photo"), "1"), (("know before c b", "case"),
                 "a 1 6, b 4 9, c 2 5 / 2 / 0 4 a, 1 4 c / before c b"), (("there 0",), "a"), (("there 1",), "a c"),
                (("photo", "undo", "undo", "undo", "there 1"), "-"), (("not 0",), "c"), (("not 1",), "-"),
                (("slots a",), "0"),
                (("slots b",), "0 1 2"), (("slots c",), "1"), (("before a c",), "yes"), (("before c a",), "no"),
                (("before b a",), "no"), (("latest",), "a 0, b 2, c 1"), (("who 1 4",), "c"), (("who 1 6",), "a b"),
                (("who 0 8",), "- b"), (("who 0 99",), "-"), (("sure 1 4",), "c"), (("sure 1 6",), "?"),
                (("sure 0 99",), "-"),
                (("sure 0 8",), "?"), (("look 0",), "a a a a ?"), (("look 1",), "a c c ? ?"), (("hide c",), "yes"),
                (("hide a",), "no"), (("hide -",), "yes"), (("show a b c",), "yes"), (("show -",), "yes"),
                (("just a b",), "yes"),
                (("just b c",), "no"), (("just -",), "no"), (("surely",), "a b"), (("stacks",), "6"),
                (("tell 0 99 -", "sure 0 99"), "-")):
            self.check(self.reply(*lines), wanted)

    def test_each_refusal(self):
        for lines, wanted in (
                (("paste a 0 0",), "Twice"), (("tell 2 4 a",), "NoPhoto"), (("tell 2 4 q",), "NoPhoto"),
                (("tell 0 4 q",), "NoName"),
                (("tell 0 9 a",), "NotOver"), (("tell 0 5 b",), "NoHistory"), (("tell 0 4 -",), "NoHistory"),
                (("know before q a",), "NoName"), (("know before a q",), "NoName"), (("know there 2 a",), "NoPhoto"),
                (("know not 2 q",), "NoPhoto"), (("know not 1 q",), "NoName"), (("know there 0 c",), "NoHistory"),
                (("know before c a",), "NoHistory"), (("know not 0 a",), "NoHistory"), (("there 2",), "NoPhoto"),
                (("not 2",), "NoPhoto"), (("look 2",), "NoPhoto"), (("who 2 4",), "NoPhoto"),
                (("sure 9 4",), "NoPhoto"),
                (("slots q",), "NoName"), (("before a q",), "NoName"), (("before q a",), "NoName"),
                (("hide a q",), "NoName"),
                (("show q",), "NoName"), (("just d",), "NoName"), (("undo",) * 8, "NothingDone")):
            self.check(self.reply(*lines), "refused " + wanted)
            if lines[0] != "undo":
                # What is refused changes nothing, and there is no deed more to take back.
                self.check(self.reply(*lines, "case"), self.reply("case"))
                self.check(self.reply(*lines, "undo", "case"), self.reply("undo", "case"))
        self.check(self.reply(*["undo"] * 7, "case"), "- / 0 / - / -")

    def test_a_desk_without_anything(self):
        for line, wanted in (("case", "- / 0 / - / -"), ("latest", "-"), ("surely", "-"), ("stacks", "1"),
                             ("hide -", "yes"),
                             ("show -", "yes"), ("just -", "yes"), ("undo", "refused NothingDone"), ("photo", "0"),
                             ("there 0", "refused NoPhoto"), ("look 0", "refused NoPhoto"),
                             ("slots a", "refused NoName")):
            self.check(desk.replies(line), [wanted])
        self.check(desk.replies("photo\nlook 0\nthere 0\nnot 0\nwho 0 5\nsure 0 5"), ["0", "-", "-", "-", "-", "-"])

    def test_each_text_has_a_board_of_its_own(self):
        self.check(desk.replies("photo"), ["0"])
        self.check(desk.replies("photo\nphoto"), ["0", "1"])
        self.check(desk.replies("photo"), ["0"])

    def test_bad_lines(self):
        for text, number in (("\n", 0), ("photo\n", 1), ("photo\nphotos\nundo now", 1), ("undo now", 0), ("\nphoto", 0),
                             ("photo\n\nphoto", 1), ("undo\nundo\nphoto ", 2), ("paste a 6 1\nx", 0), (" ", 0),
                             ("there 5\nslots q\ntell 1 1 q\nhide b a", 3), ("\n".join(START) + "\n", 7),
                             ("photo\r\nphoto", 0)):
            self.refused_all_ways("BadLine", {"number": number}, desk.replies, text=text)


class BesideABoard(Case):
    """What the desk tells, beside a Board that is led by the same deeds and the functions that are asked."""

    def line(self, chance):
        name, other = chance.sample("abcd", 2)
        photo, cell, last = chance.randint(0, 2), chance.randint(0, 6), chance.randint(6, 8)
        some = " ".join(sorted(chance.sample("abcd", chance.randint(1, 3)))) if chance.randrange(4) else "-"
        return chance.choice([f"paste {name} {cell} {last}", f"tell {photo} {cell} {name}", f"tell {photo} {cell} -",
                              f"know before {name} {other}", f"know there {photo} {name}", f"know not {photo} {name}",
                              "undo",
                              "case", f"there {photo}", f"not {photo}", f"slots {name}", f"before {name} {other}",
                              "latest",
                              f"who {photo} {cell}", f"sure {photo} {cell}", f"look {photo}", f"hide {some}",
                              f"show {some}",
                              f"just {some}", "surely", "stacks", f"tell {photo} {cell} {name}"])

    def test_many_requests(self):
        chance = random.Random(71)
        found = {}
        for _ in range(80):
            lines = ["paste a 0 4", "paste b 2 6", "photo", "photo"][:chance.randint(1, 4)]
            lines += [self.line(chance) for _ in range(56)]
            board = Board()
            for line, reply in zip(lines, desk.replies("\n".join(lines))):
                self.check(reply, self.reply_said(board, line))
                found[reply if reply.startswith("refused") else line.split(" ")[0]] = True
        self.assertEqual(len(found), 25)

    def reply_said(self, board, line):
        try:
            return self.told_said(board, *line.split(" "))
        except (NoHistory, NoName, NoPhoto, NothingDone, NotOver, Twice) as error:
            return "refused " + type(error).__name__

    def told_said(self, board, word, *rest):
        case = board.case()
        if word in ("hide", "show", "just"):
            call = {"hide": shown.may_hide, "show": shown.may_show, "just": shown.can_be_just}[word]
            return "yes" if call(case[0], () if rest == ("-",) else rest) else "no"
        values = [int(part) if re.fullmatch("-?[0-9]+", part) else part for part in rest]
        if word in ("paste", "tell"):
            getattr(board, word)(*values)
            return "done"
        if word == "know":
            board.know(values)
            return "done"
        if word == "undo":
            board.undo()
            return "done"
        return {
            "photo": lambda: str(board.snap()), "case": lambda: texts.case_text(case).replace("\n", " / "),
            "there": lambda: names_said(sure.surely_there(case, *values)),
            "not": lambda: names_said(sure.surely_not(case, *values)),
            "slots": lambda: " ".join([str(slot) for slot in sure.slots(case, *values)]),
            "before": lambda: "yes" if sure.surely_before(case, *values) else "no",
            "latest": lambda: ", ".join([f"{name} {slot}" for name, slot in latest.latest(case)]) or "-",
            "who": lambda: " ".join(sure.answers(case, *values)),
            "sure": lambda: sure.sure_answer(case, *values) or "?",
            "look": lambda: " ".join([seen or "?" for seen in sure.sure_look(case, *values)]) or "-",
            "surely": lambda: names_said(shown.surely_seen(case[0])),
            "stacks": lambda: str(stacks.how_many_stacks(case[0])),
        }[word]()


class Bounds(Case):
    def test_sixty_lines(self):
        lines = [f"paste {sign} {-FAR + at} {FAR - at}" for at, sign in enumerate("abcdefghijkl")]
        lines += ["photo"] * 8
        lines += [f"tell {at % 8} {at} {'abcdefgh'[at % 8]}" for at in range(16)]
        lines += [f"know not {photo} l" for photo in range(8)] + ["know before h l", "know before h k"]
        lines += ["case", "latest", "look 7", "look 0", "there 7", "not 0", "slots l", "before a h", "who 3 0",
                  "sure 3 0",
                  "hide b c d", "show a b c d e f g h i j k l", "just a l", "stacks"]
        self.check(len(lines), 60)
        found = desk.replies("\n".join(lines))
        self.check(found[:46], ["done"] * 12 + [str(photo) for photo in range(8)] + ["done"] * 26)
        self.check(found[47], ", ".join([f"{sign} {min(at, 8)}" for at, sign in enumerate("abcdefghijkl")]))
        self.check(found[50:], ["a b c d e f g h", "b c d e f g h k l", "8", "yes", "d", "d", "yes", "yes", "yes",
                                "479001600"])


if __name__ == "__main__":
    unittest.main()
