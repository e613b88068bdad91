"""Linked rows loaded as words, and read back."""

from linkneed.layouts import addresses_of, least_long
from linkneed.operations import OPERATIONS
from linkneed.wordcodes import (
    CALL, LONG_JUMP, LONG_NOUGHT, MOVE, NUMBER, PLAIN, PLAIN_VERBS, SHORT_HIGH, SHORT_JUMP, SHORT_LOW, SHORT_NOUGHT,
    SHORT_OFFSET, SWAP, parts_of, word_of)

PLACED_VERBS = ("div", "rem", "call")


def load(linked):
    """The image of linked rows: (words, start, need, takes, gives, places)."""
    need, takes, gives, functions = linked
    starts = {}
    addresses = {}
    behind = 0
    for title, _, rows in functions:
        starts[title] = behind
        addresses[title] = [behind + address for address in _addresses_in(rows)]
        behind = addresses[title][-1]
    words = []
    places = []
    for title, _, rows in functions:
        here = addresses[title]
        for at, row in enumerate(rows):
            words.extend(_row_words(row, here[at], here[at + 1] - here[at] == 2, _target_of(row, here, starts)))
            if row[0] in PLACED_VERBS:
                places.append((here[at], title, row[-1]))
    return (tuple(words), starts["main"], need, takes, gives, tuple(places))


def _addresses_in(rows):
    # The addresses of the rows of one function, by themselves, and of what follows them.
    things = tuple([_thing_of(row) for row in rows])
    return addresses_of(things, least_long(things, SHORT_LOW, SHORT_HIGH))


def _thing_of(row):
    if row[0] in ("jump", "nought"):
        return ("jump", row[-1])
    if row[0] in ("number", "call"):
        return 2
    return 1


def _target_of(row, addresses, starts):
    # The address that the row names; None for a row that names none.
    if row[0] in ("jump", "nought"):
        return addresses[row[-1]]
    if row[0] == "call":
        return starts[row[1]]
    return None


def _row_words(row, address, is_long, target):
    verb = row[0]
    if verb in PLAIN_VERBS:
        cell = row[1] if len(row) > 1 else 0
        return [word_of(PLAIN, PLAIN_VERBS.index(verb), cell)]
    if verb == "number":
        return [word_of(NUMBER, row[1]), row[2]]
    if verb == "move":
        return [word_of(MOVE, row[1], row[2])]
    if verb == "swap":
        return [word_of(SWAP, row[1], row[2])]
    if verb in OPERATIONS:
        return [word_of(SWAP + 1 + OPERATIONS.index(verb), row[1], row[2], row[3])]
    if verb == "call":
        return [word_of(CALL), target]
    codes = (SHORT_JUMP, LONG_JUMP)
    cell = 0
    if verb == "nought":
        codes = (SHORT_NOUGHT, LONG_NOUGHT)
        cell = row[1]
    if is_long:
        return [word_of(codes[1], cell), target]
    return [word_of(codes[0], cell, 0, target - address + SHORT_OFFSET)]


def rows_in(words):
    """The tuple of the pairs (address, row) of the words of an image; jumps and calls name addresses."""
    rows = []
    at = 0
    while at < len(words):
        behind = None
        length = 1
        if parts_of(words[at])[0] in (NUMBER, LONG_JUMP, LONG_NOUGHT, CALL):
            behind = words[at + 1]
            length = 2
        rows.append((at, _row_of(words[at], at, behind)))
        at += length
    return tuple(rows)


def _row_of(word, address, behind):
    verb, b, c, d = parts_of(word)
    if verb == PLAIN:
        if PLAIN_VERBS[b] in ("beat", "back"):
            return (PLAIN_VERBS[b],)
        return (PLAIN_VERBS[b], c)
    if verb == NUMBER:
        return ("number", b, behind)
    if verb == MOVE:
        return ("move", b, c)
    if verb == SWAP:
        return ("swap", b, c)
    if verb < SHORT_JUMP:
        return (OPERATIONS[verb - SWAP - 1], b, c, d)
    if verb == CALL:
        return ("call", behind)
    target = behind
    if verb in (SHORT_JUMP, SHORT_NOUGHT):
        target = address + d - SHORT_OFFSET
    if verb in (SHORT_JUMP, LONG_JUMP):
        return ("jump", target)
    return ("nought", b, target)
