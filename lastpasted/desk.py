"""A desk: requests, each a line of text, put to a Board, and the reply to each."""

from lastpasted.bills import is_bill
from lastpasted.board import Board
from lastpasted.errors import BadLine, NoHistory, NoName, NoPhoto, NothingDone, NotOver, Twice
from lastpasted.forms import is_ascending, is_name, is_number
from lastpasted.latest import latest
from lastpasted.shown import can_be_just, may_hide, may_show, surely_seen
from lastpasted.stacks import how_many_stacks
from lastpasted.sure import answers, slots, sure_answer, sure_look, surely_before, surely_not, surely_there
from lastpasted.texts import (
    NOTHING, are_unlike_names, case_text, is_some_fact, is_some_number, is_some_telling, rows_text, words_read,
    words_text,
)

LONGEST = 400
DEEDS = ("paste", "tell", "know", "undo", "photo")
OF_THE_FENCE = ("hide", "show", "just", "surely", "stacks")
ALONE = ("undo", "photo", "case", "latest", "surely", "stacks")


def is_deed(word, rest):
    if word == "paste":
        return is_bill(rest)
    if word == "tell":
        return is_some_telling(rest)
    return word == "know" and is_some_fact(rest)


def is_some_set(words):
    """Whether these words are what is written for a set of NAMEs."""
    if words == (NOTHING,):
        return True
    return words != () and all([is_name(word) for word in words]) and is_ascending(words)


def is_question(word, rest):
    if word in ("there", "not", "look"):
        return len(rest) == 1 and is_some_number(rest[0])
    if word == "slots":
        return len(rest) == 1 and is_name(rest[0])
    if word == "before":
        return len(rest) == 2 and are_unlike_names(rest[0], rest[1])
    if word in ("who", "sure"):
        return len(rest) == 2 and is_some_number(rest[0]) and is_number(rest[1])
    return word in ("hide", "show", "just") and is_some_set(rest)


def is_line(line):
    """Whether a line of whatever length is a request."""
    words = words_read(line)
    word, rest = words[0], words[1:]
    if word in ALONE:
        return rest == ()
    return is_deed(word, rest) or is_question(word, rest)


def is_request(thing):
    return isinstance(thing, str) and len(thing) <= LONGEST and is_line(thing)


def do_deed(board, word, rest):
    if word == "photo":
        return str(board.snap())
    if word == "undo":
        board.undo()
    elif word == "paste":
        name, first, last = rest
        board.paste(name, first, last)
    elif word == "tell":
        photo, cell, seen = rest
        board.tell(photo, cell, seen)
    else:
        board.know(rest)
    return "done"


def yes_or_no(answer):
    return "yes" if answer else "no"


def if_sure(answer):
    return "?" if answer is None else answer


def tell_of_fence(fence, word, rest):
    if word == "stacks":
        return str(how_many_stacks(fence))
    if word == "surely":
        return words_text(surely_seen(fence))
    those = () if rest == (NOTHING,) else rest
    if word == "hide":
        return yes_or_no(may_hide(fence, those))
    return yes_or_no(may_show(fence, those) if word == "show" else can_be_just(fence, those))


def tell_of_photo(case, word, photo):
    if word == "there":
        return words_text(surely_there(case, photo))
    if word == "not":
        return words_text(surely_not(case, photo))
    return words_text([if_sure(answer) for answer in sure_look(case, photo)])


def tell_of_case(case, word, rest):
    if word == "case":
        return " / ".join(case_text(case).split("\n"))
    if word == "latest":
        return rows_text(latest(case))
    if word == "slots":
        return words_text(slots(case, rest[0]))
    if word == "before":
        return yes_or_no(surely_before(case, rest[0], rest[1]))
    if word == "who":
        return words_text(answers(case, rest[0], rest[1]))
    if word == "sure":
        return if_sure(sure_answer(case, rest[0], rest[1]))
    return tell_of_photo(case, word, rest[0])


def answer_to(board, line):
    words = words_read(line)
    word, rest = words[0], words[1:]
    if word in DEEDS:
        return do_deed(board, word, rest)
    if word in OF_THE_FENCE:
        return tell_of_fence(board.case()[0], word, rest)
    return tell_of_case(board.case(), word, rest)


def reply_to(board, line):
    try:
        return answer_to(board, line)
    except NoName:
        return "refused NoName"
    except NoPhoto:
        return "refused NoPhoto"
    except NothingDone:
        return "refused NothingDone"
    except NoHistory:
        return "refused NoHistory"
    except NotOver:
        return "refused NotOver"
    except Twice:
        return "refused Twice"


def replies(text):
    if text == "":
        return []
    lines = text.split("\n")
    for number, line in enumerate(lines):
        if not is_line(line):
            raise BadLine(number)
    board = Board()
    found = []
    for line in lines:
        found.append(reply_to(board, line))
    return found
