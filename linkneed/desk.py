"""A desk: lines answered by a bench."""

from linkneed.errors import Beyond, InvalidEvent, InvalidText, Missing, NothingToUndo, NotUsable
from linkneed.eventreadings import read_event
from linkneed.kinds import DIGITS, GREATEST_SIZE
from linkneed.live import LiveBench

MOST_DIGITS = 60


def desk(lines):
    """The tuple of one answer for each line, in order."""
    if not isinstance(lines, tuple) or not all([isinstance(line, str) for line in lines]):
        raise NotUsable("lines", -1)
    bench = LiveBench(GREATEST_SIZE, ())
    answers = []
    for line in lines:
        answers.append(_answer(bench, line))
    return tuple(answers)


def _answer(bench, line):
    if line == "need":
        return _need_answer(bench)
    if line == "units":
        return _line_of(["units"] + [unit[0] for unit in bench.units_now])
    if line == "tally":
        return _line_of(["tally"] + list(bench.tally) + [bench.compiled])
    words = line.split(" ")
    if all([_is_number_text(word) for word in words[1:]]):
        numbers = [int(word) for word in words[1:]]
        if words[0] == "undo" and len(numbers) == 1:
            return _undo_answer(bench, numbers[0])
        if words[0] == "run" and len(numbers) > 0:
            return _run_answer(bench, tuple(numbers[1:]), numbers[0])
    return _event_answer(bench, line)


def _is_number_text(text):
    if not 1 <= len(text) <= MOST_DIGITS or not all([letter in DIGITS for letter in text]):
        return False
    return text == "0" or text[0] != "0"


def _line_of(parts):
    return " ".join([str(part) for part in parts])


def _need_answer(bench):
    try:
        return str(bench.present_need())
    except Missing as lack:
        return _line_of(["missing", lack.title])


def _undo_answer(bench, many):
    try:
        bench.undo(many)
    except NothingToUndo as lack:
        return _line_of(["only", lack.steps])
    return _line_of(["undone", many])


def _run_answer(bench, args, most):
    try:
        told, end, beats = bench.run(args, most)
    except Missing as lack:
        return _line_of(["missing", lack.title])
    except Beyond as excess:
        return _line_of(["beyond", excess.need])
    except NotUsable as refused:
        return _line_of(["unusable", refused.word])
    if end[0] == "gave":
        end = ("gave",) + end[1]
    return _line_of(["told"] + list(told) + list(end) + ["beats", beats])


def _event_answer(bench, line):
    try:
        event = read_event(line)
    except InvalidText as wrong:
        return _line_of(["unread", wrong.line])
    try:
        changes = bench.go(event)
    except InvalidEvent as refused:
        return _line_of(["refused", refused.reason])
    if changes is None:
        return "done"
    return _line_of(["done"] + [part for change in changes for part in change])
