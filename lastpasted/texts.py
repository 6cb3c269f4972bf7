"""FENCEs, TELLINGS, FACTs, HISTORYs, STACKs and CASEs written as texts and read back."""

from lastpasted.bills import is_fence
from lastpasted.cases import NONE_SEEN, is_facts, is_history, is_told, names_in, photos_in
from lastpasted.errors import BadLine, BadText
from lastpasted.forms import is_ascending, is_name, is_number, is_triple

NOTHING = "-"
DIGITS = "0123456789"


def words_text(words):
    """These numbers and strings with blanks between."""
    return " ".join([str(word) for word in words]) if words else NOTHING


def rows_text(rows):
    return ", ".join([words_text(row) for row in rows]) if rows else NOTHING


def fence_text(fence):
    return rows_text(fence)


def told_text(told):
    return rows_text(told)


def facts_text(facts):
    return rows_text(facts)


def history_text(history):
    return words_text(history)


def stack_text(stack):
    return ", ".join([f"{lower} under {upper}" for lower, upper in stack]) if stack else NOTHING


def case_text(case):
    fence, photos, told, facts = case
    return "\n".join([fence_text(fence), str(photos), told_text(told), facts_text(facts)])


def word_read(word):
    """The number that is written so; the word itself if none is."""
    digits = word[1:] if word.startswith("-") else word
    # With a needless nought it is no number; nor is it a NAME, so it can stand nowhere.
    if digits == "" or not all([sign in DIGITS for sign in digits]) or (digits.startswith("0") and word != "0"):
        return word
    return int(word)


def words_read(text):
    return tuple([word_read(word) for word in text.split(" ")])


def rows_read(text):
    return tuple([words_read(part) for part in text.split(", ")]) if text != NOTHING else ()


def is_some_number(thing):
    """Whether thing may be the number of a PHOTO."""
    return is_number(thing) and thing >= 0


def is_some_telling(thing):
    """Whether thing is a TELLING for some FENCE and some number of PHOTOs."""
    if not is_triple(thing):
        return False
    photo, cell, seen = thing
    return is_some_number(photo) and is_number(cell) and (seen == NONE_SEEN or is_name(seen))


def are_unlike_names(one, other):
    return is_name(one) and is_name(other) and one != other


def is_some_fact(thing):
    """Whether thing is a FACT for some FENCE and some number of PHOTOs."""
    if not is_triple(thing):
        return False
    word, one, other = thing
    if word == "before":
        return are_unlike_names(one, other)
    return word in ("there", "not") and is_some_number(one) and is_name(other)


def fence_read(text):
    rows = rows_read(text)
    if not is_fence(rows):
        raise BadText()
    return rows


def told_read(text):
    rows = rows_read(text)
    if not all([is_some_telling(row) for row in rows]) or not is_ascending(rows):
        raise BadText()
    return rows


def facts_read(text):
    rows = rows_read(text)
    if not all([is_some_fact(row) for row in rows]) or not is_ascending(rows):
        raise BadText()
    return rows


def history_read(text):
    row = words_read(text) if text != NOTHING else ()
    # A FENCE of these NAMEs, wherever its BILLs lie: it is none if one of them is no NAME or stands twice.
    fence = tuple([(name, 0, 0) for name in sorted(names_in(row))])
    if not is_fence(fence) or not is_history(fence, len(photos_in(row)), row):
        raise BadText()
    return row


def stack_read(text):
    pairs = tuple([tuple(part.split(" under ")) for part in text.split(", ")]) if text != NOTHING else ()
    if not all([len(pair) == 2 and are_unlike_names(pair[0], pair[1]) for pair in pairs]) or not is_ascending(pairs):
        raise BadText()
    return pairs


def can_stand(parts, part):
    """Whether this can be the next part of a CASE behind those parts."""
    if len(parts) == 0:
        return is_fence(part)
    if len(parts) == 1:
        return is_some_number(part)
    if len(parts) == 2:
        return is_told(parts[0], parts[1], part)
    return len(parts) == 3 and is_facts(parts[0], parts[1], part)


def case_read(text):
    parts = []
    for number, line in enumerate(text.split("\n")):
        part = word_read(line) if number == 1 else rows_read(line)
        if not can_stand(parts, part):
            raise BadLine(number)
        parts.append(part)
    if len(parts) < 4:
        raise BadLine(len(parts))
    return tuple(parts)
