"""Texts: written and read back, and texts that are almost right, beside a second reading by patterns."""

import random
import re
import unittest

from lastpasted import cases, stacks, texts
from tests.support import FAR, Case, great_case, histories, small_cases, small_fence

NAME, NUMBER, PHOTO = "[a-z]{1,8}", "(?:0|-?[1-9][0-9]*)", "(?:0|[1-9][0-9]*)"
BILL = f"{NAME} {NUMBER} {NUMBER}"
TELLING = f"{PHOTO} {NUMBER} (?:{NAME}|-)"
FACT = f"(?:before {NAME} {NAME}|(?:there|not) {PHOTO} {NAME})"
PAIR = f"{NAME} under {NAME}"

BOARDS = (("a", 1, 6), ("b", -4, 9))
TOLD = ((0, 4, "a"), (1, -2, "-"))
FACTS = (("before", "a", "b"), ("not", 1, "b"), ("there", 0, "a"))
ROW = ("a", 0, "b", 1)
STACK = (("a", "b"), ("c", "b"))
STORY = (BOARDS, 2, ((0, 4, "a"), (1, 4, "b")), (("not", 0, "b"),))
STORY_TEXT = "a 1 6, b -4 9\n2\n0 4 a, 1 4 b\nnot 0 b"


def value(word):
    return int(word) if re.fullmatch("-?[0-9]+", word, re.ASCII) else word


def rows_said(pattern, text):
    """The tuples that are written so, by this pattern for each; None if none are, or if they do not ascend."""
    if text == "-":
        return ()
    if re.fullmatch(f"{pattern}(?:, {pattern})*", text, re.ASCII) is None:
        return None
    rows = [tuple([value(word) for word in part.split(" ")]) for part in text.split(", ")]
    return tuple(rows) if rows == sorted(set(rows)) else None


def fence_said(text):
    rows = rows_said(BILL, text)
    if rows is None or len({row[0] for row in rows}) < len(rows) or any(row[1] > row[2] for row in rows):
        return None
    return rows


def told_said(text):
    return rows_said(TELLING, text)


def facts_said(text):
    rows = rows_said(FACT, text)
    return None if rows is None or any(row[1] == row[2] for row in rows) else rows


def history_said(text):
    if text == "-":
        return ()
    if re.fullmatch(f"(?:{NAME}|{PHOTO})(?: (?:{NAME}|{PHOTO}))*", text, re.ASCII) is None:
        return None
    row = [value(word) for word in text.split(" ")]
    numbers = [part for part in row if type(part) is int]
    return tuple(row) if len(set(row)) == len(row) and numbers == list(range(len(numbers))) else None


def stack_said(text):
    if text == "-":
        return ()
    if re.fullmatch(f"{PAIR}(?:, {PAIR})*", text, re.ASCII) is None:
        return None
    pairs = [tuple(part.split(" under ")) for part in text.split(", ")]
    return tuple(pairs) if pairs == sorted(set(pairs)) and all(low != high for low, high in pairs) else None


def case_said(text):
    """The CASE with these lines, or the number of the first line that cannot stand there."""
    lines = text.split("\n")
    fence = fence_said(lines[0])
    if fence is None:
        return 0
    if len(lines) < 2 or re.fullmatch(PHOTO, lines[1], re.ASCII) is None:
        return 1
    photos, known = int(lines[1]), {bill[0]: bill for bill in fence}
    told = told_said(lines[2]) if len(lines) > 2 else None
    if told is None:
        return 2
    for photo, cell, seen in told:
        if photo >= photos or seen != "-" and not (seen in known and known[seen][1] <= cell <= known[seen][2]):
            return 2
    facts = facts_said(lines[3]) if len(lines) > 3 else None
    if facts is None or not all(other in known and (one in known if word == "before" else one < photos)
                                for word, one, other in facts):
        return 3
    return 4 if len(lines) > 4 else (fence, photos, told, facts)


def almost(text):
    """Texts that are almost this one."""
    yield text
    for at in range(len(text) + 1):
        for sign in (" ", "0", "-", "+", "a", "A", ",", "\n", "\t", ".", "_", "\u0663", "\u00b2", "7"):
            yield text[:at] + sign + text[at:]
            yield text[:at] + sign + text[at + 1:]
        yield text[:at] + text[at + 1:]
        yield text[:at]
        yield text[at:]
    words = text.split(" ")
    for at in range(len(words)):
        for word in ("-0", "00", "01", "+1", "-", "a" * 8, "a" * 9, "1_0", "", "before", "there", "under", "0", "1",
                     "-1",
                     "0x1", "1.0", "1e1", "\u0661", "-7", "a,"):
            yield " ".join(words[:at] + [word] + words[at + 1:])
        yield " ".join(words[:at] + words[at + 1:])
        for further in range(at + 1, len(words)):
            yield " ".join(words[:at] + [words[further]] + words[at + 1:further] + [words[at]] + words[further + 1:])
    parts = text.split(", ")
    for at in range(len(parts)):
        yield ", ".join(parts[:at] + parts[at + 1:])
        yield ", ".join(parts[:at] + [parts[at]] + parts[at:])
    yield from (", ".join(parts[::-1]), ",".join(parts), ";".join(parts), " , ".join(parts), text.upper(),
                text + ", " + text,
                text + " " + text, " " + text, text + " ", text + "\n", "\n" + text, text + ",", text + ", ", "", "-",
                " ", "--",
                "\n", "- ", " -", "-, -", "None", "()", "0", "a", "- -")


READERS = ((texts.fence_read, texts.fence_text, fence_said), (texts.told_read, texts.told_text, told_said),
           (texts.facts_read, texts.facts_text, facts_said), (texts.history_read, texts.history_text, history_said),
           (texts.stack_read, texts.stack_text, stack_said))


class Written(Case):
    def test_fence_text(self):
        for fence, wanted in ((BOARDS, "a 1 6, b -4 9"), ((), "-"), (BOARDS[:1], "a 1 6"),
                              ((("abcdefgh", -FAR, FAR),), f"abcdefgh -1{'0' * 40} 1{'0' * 40}"),
                              ((("z", 0, 0),), "z 0 0")):
            self.check_all_ways(texts.fence_text, wanted, fence=fence)
            self.check_all_ways(texts.fence_read, fence, text=wanted)

    def test_told_text(self):
        for told, wanted in ((TOLD, "0 4 a, 1 -2 -"), ((), "-"), (((7, -FAR, "zz"),), f"7 -1{'0' * 40} zz"),
                             (((0, 0, "-"), (0, 0, "a")), "0 0 -, 0 0 a")):
            self.check_all_ways(texts.told_text, wanted, told=told)
            self.check_all_ways(texts.told_read, told, text=wanted)

    def test_facts_text(self):
        for facts, wanted in ((FACTS, "before a b, not 1 b, there 0 a"), ((), "-"), (FACTS[:1], "before a b"),
                              ((("before", "before", "there"), ("not", 0, "not")), "before before there, not 0 not")):
            self.check_all_ways(texts.facts_text, wanted, facts=facts)
            self.check_all_ways(texts.facts_read, facts, text=wanted)

    def test_history_text(self):
        for history, wanted in ((ROW, "a 0 b 1"), ((), "-"), ((0,), "0"), (("a",), "a"), ((0, 1, "c", 2), "0 1 c 2")):
            self.check_all_ways(texts.history_text, wanted, history=history)
            self.check_all_ways(texts.history_read, history, text=wanted)

    def test_stack_text(self):
        for stack, wanted in ((STACK, "a under b, c under b"), ((), "-"),
                              ((("a", "b"), ("b", "a")), "a under b, b under a"),
                              ((("under", "a"),), "under under a"), ((("a", "under"),), "a under under")):
            self.check_all_ways(texts.stack_text, wanted, stack=stack)
            self.check_all_ways(texts.stack_read, stack, text=wanted)

    def test_case_text(self):
        for case, wanted in ((STORY, STORY_TEXT), (((), 0, (), ()), "-\n0\n-\n-"),
                             (((), 7, ((3, -1, "-"),), ()), "-\n7\n3 -1 -\n-"),
                             ((BOARDS, 0, (), FACTS[:1]), "a 1 6, b -4 9\n0\n-\nbefore a b")):
            self.check_all_ways(texts.case_text, wanted, case=case)
            self.check_all_ways(texts.case_read, case, text=wanted)


class Refused(Case):
    def check_read(self, text):
        """Each reader but that of CASEs gives what the pattern says of this text."""
        found = 0
        for read, write, said in READERS:
            wanted = said(text)
            if wanted is None:
                self.refused("BadText", {}, read, text)
            else:
                self.check(read(text), wanted)
                self.check(write(wanted), text)
                found += 1
        return found

    def test_almost_right(self):
        found = [0] * 6
        for text in ("a 1 6, b -4 9", "0 4 a, 1 -2 -", "before a b, not 1 b, there 0 a", "a 0 b 1",
                     "a under b, c under b", "-",
                     "abcdefgh 10 10", "0 0 -", "there 10 abcdefgh", "0 1 c", "b under a"):
            for spoiled in almost(text):
                found[self.check_read(spoiled)] += 1
        self.assertGreater(found[0], 1000)
        self.assertGreater(found[1], 100)
        self.assertGreater(found[5], 0)

    def test_named_texts(self):
        for read, bad in (
                (texts.fence_read, ("a 6 1", "b 1 2, a 1 2", "a 1 2, a 3 4", "a 1", "a 1 2 3", "a 01 2", "a 1 +2",
                                    "a -0 2", "",
                                    "a  1 2", " a 1 2", "a 1 2 ", "a 1 2,b 1 2", "A 1 2", "abcdefghi 1 2", "a 1 2\n",
                                    "1 1 2",
                                    "- 1 2", "a 1 2, -", "-, a 1 2", "a 1 2, a 1 2", "a \u0661 2", "a 1 \u00b2")),
                (texts.told_read, ("-1 4 a", "0 4", "0 4 a b", "0 a 4", "0 4 A", "1 4 a, 0 4 a", "0 4 a, 0 4 a",
                                   "0 4 --", "a",
                                   "0 -0 a", "00 4 a", "0 4 abcdefghi", "0 4 a\n", "", " ", "0 4 ", "0 4 1")),
                (texts.facts_read, ("before a a", "before a 0", "there a 0", "there -1 a", "not 0 -", "after a b",
                                    "Before a b",
                                    "before a", "before a b c", "there 0 a, before a b", "not 1 b, not 1 b",
                                    "there 00 a", "",
                                    "not 0 0", "not a b", "before 0 a", "0 a b")),
                (texts.history_read, ("a 1 b 0", "a 0 a", "1", "a 1", "a 0 0", "a - b", "a  0", "0 2", "a 0 b 2", "",
                                      "a 00",
                                      "-1", "A 0", "a, 0", "0 1 1", "-0")),
                (texts.stack_read, ("a under a", "a over b", "a under", "under b", "b under a, a under b",
                                    "a under b, a under b",
                                    "a under b under c", "a  under b", "A under b", "a under 1", "",
                                    "a under b,c under b",
                                    "under", "a under b, -"))):
            for text in bad:
                self.refused_all_ways("BadText", {}, read, text=text)

    def test_bad_lines(self):
        for text, number in (
                ("", 0), ("-", 1), ("-\n0", 2), ("-\n0\n-", 3), ("-\n0\n-\n-\n", 4), ("-\n0\n-\n-\n-", 4), ("-\n", 1),
                ("\n", 0),
                ("-\n0\n", 2), ("-\n0\n-\n", 3), ("a 6 1\n1\n-\n-", 0), ("a 1 6\n-1\n-\n-", 1), ("a 1 6\n-\n-\n-", 1),
                ("a 1 6\n01\n-\n-", 1), ("a 1 6\n+1\n-\n-", 1), ("a 1 6\n1 \n-\n-", 1), ("a 1 6\n1\n0 7 a\n-", 2),
                ("a 1 6\n1\n1 4 a\n-", 2), ("a 1 6\n1\n0 4 b\n-", 2), ("a 1 6\n0\n0 4 -\n-", 2),
                ("a 1 6\n1\n-\nbefore a b", 3),
                ("a 1 6\n1\n-\nthere 1 a", 3), ("a 1 6\n1\n-\nnot 0 b", 3), ("a 1 6\n1\n-\n", 3),
                ("a 1 6\n1\n0 7 a", 2),
                ("a 1 6\n1\n0 7 a\n-\n-", 2), ("a 6 1\n-1", 0), ("a 1 6\n1\n0 4 a, 0 3 a\n-", 2), ("a\n1\n-\n-", 0),
                (" \n0\n-\n-", 0), (STORY_TEXT + "\n" + STORY_TEXT, 4), ("a 1 6\nx\n-\n-", 1), ("a 1 6\n\n-\n-", 1)):
            self.refused_all_ways("BadLine", {"number": number}, texts.case_read, text=text)

    def test_almost_cases(self):
        found = [0] * 6
        for text in (STORY_TEXT, "-\n0\n-\n-", "a 1 6\n1\n0 4 -\nthere 0 a"):
            lines = text.split("\n")
            changed = [spoiled for spoiled in almost(text)]
            for at in range(len(lines)):
                changed += ["\n".join(lines[:at] + [spoiled] + lines[at + 1:]) for spoiled in almost(lines[at])]
                changed += ["\n".join(lines[:at]), "\n".join(lines[:at] + lines[at:at + 1] + lines[at:])]
            for spoiled in changed:
                found[self.check_case(spoiled)] += 1
        self.assertGreater(min(found), 5)

    def check_case(self, text):
        wanted = case_said(text)
        if type(wanted) is int:
            self.refused("BadLine", {"number": wanted}, texts.case_read, text)
            return wanted
        self.check(texts.case_read(text), wanted)
        self.check(texts.case_text(wanted), text)
        return 5


class ThereAndBack(Case):
    def test_small_cases(self):
        for case in small_cases(61, 300):
            for write, read, part in ((texts.case_text, texts.case_read, case),
                                      (texts.fence_text, texts.fence_read, case[0]),
                                      (texts.told_text, texts.told_read, case[2]),
                                      (texts.facts_text, texts.facts_read, case[3])):
                self.check(read(write(part)), part)
                self.assertNotIn("\n\n", write(part))
        for history in histories("abc", 2):
            self.check(texts.history_read(texts.history_text(history)), history)

    def test_stacks(self):
        chance = random.Random(62)
        for at in range(60):
            fence = small_fence(chance, "abcd"[:at % 5])
            stack = stacks.nth_stack(fence, chance.randrange(stacks.how_many_stacks(fence)))
            self.check(texts.stack_read(texts.stack_text(stack)), stack)

    def test_at_the_bounds(self):
        case, history = great_case()
        self.check(texts.case_read(texts.case_text(case)), case)
        self.check(texts.history_read(texts.history_text(history)), history)
        self.check(texts.fence_read(texts.fence_text(case[0])), case[0])
        number = int("9" * 399)
        self.check(texts.told_read("0 " + "9" * 390 + " a"), ((0, number // 10 ** 9, "a"),))
        self.refused("BadText", {}, texts.fence_read, "a" * 400)
        self.refused("BadLine", {"number": 0}, texts.case_read, "\n".join(["z" * 400] * 60))
        self.check(cases.is_case(texts.case_read("-\n" + "9" * 400 + "\n-\n-")), True)

    def test_more_than_a_fence_can_have(self):
        row = tuple("abcdefghijklmnopqrstuvwxyz") + tuple(range(20))
        self.check(texts.history_read(texts.history_text(row)), row)


if __name__ == "__main__":
    unittest.main()
