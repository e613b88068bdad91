"""Whether values are rows, pieces, objects."""

from linkneed.kinds import is_number, is_title, is_word
from linkneed.operations import OPERATIONS
from linkneed.structures import width_of

# How many registers or rows stand behind the verb of a row in which nothing else does.
COUNTS = {
    "move": 2, "swap": 2, "add": 3, "sub": 3, "mul": 3, "less": 3, "same": 3, "tell": 1, "beat": 0, "keep": 1,
    "fetch": 1, "jump": 1, "nought": 2, "back": 0,
}
ENDING_VERBS = ("jump", "nought", "back")
LINKED_VERBS = ("keep", "fetch", "call")


def is_row(thing):
    """Whether any value is a row of the machine; an open row is none."""
    if not isinstance(thing, tuple) or len(thing) == 0 or not isinstance(thing[0], str):
        return False
    verb = thing[0]
    if verb == "number":
        return len(thing) == 3 and is_number(thing[1]) and is_word(thing[2])
    if verb == "call":
        return len(thing) == 3 and is_title(thing[1]) and is_number(thing[2])
    if verb in ("div", "rem"):
        return len(thing) == 5 and _are_numbers(thing[1:])
    return verb in COUNTS and len(thing) == 1 + COUNTS[verb] and _are_numbers(thing[1:])


def _are_numbers(things):
    return isinstance(things, tuple) and all([is_number(thing) for thing in things])


def is_open_row(thing):
    """Whether any value is an open row."""
    if not isinstance(thing, tuple) or len(thing) != 6 or thing[0] != "call":
        return False
    if not is_title(thing[1]) or not is_number(thing[2]) or not is_number(thing[5]):
        return False
    return _are_numbers(thing[3]) and _are_unlike(thing[3]) and _are_numbers(thing[4])


def _are_unlike(things):
    return len({thing: True for thing in things}) == len(things)


def is_structure(thing):
    """Whether any value is "word", or a tuple of at least one tuple of structures."""
    if not isinstance(thing, tuple):
        return thing == "word"
    return len(thing) > 0 and all([_are_structures(fields) for fields in thing])


def _are_structures(thing):
    return isinstance(thing, tuple) and all([is_structure(structure) for structure in thing])


def is_piece(thing):
    """Whether any value is a piece."""
    if not isinstance(thing, tuple) or len(thing) != 5 or not _is_signed(thing[:3]) or not is_number(thing[3]):
        return False
    _, takes, gives, own, blocks = thing
    if taken_words(takes) > own or width_of(gives) > own:
        return False
    if not isinstance(blocks, tuple) or len(blocks) == 0:
        return False
    if not all([_is_block(block, own, len(blocks)) for block in blocks]):
        return False
    return len(blocks[-1]) > 0 and blocks[-1][-1][0] in ("jump", "back")


def _is_signed(thing):
    # A title, what is taken, what is given.
    return is_title(thing[0]) and _are_structures(thing[1]) and is_structure(thing[2])


def taken_words(takes):
    """How many words all of these structures have together."""
    return sum([width_of(structure) for structure in takes])


def _is_block(thing, own, many):
    if not isinstance(thing, tuple) or not all([_is_piece_row(row, own, many) for row in thing]):
        return False
    verbs = [row[0] for row in thing]
    if verbs[-2:] == ["nought", "jump"]:
        verbs = verbs[:-2]
    else:
        verbs = verbs[:-1]
    return not any([verb in ENDING_VERBS for verb in verbs])


def _is_piece_row(thing, own, many):
    if is_open_row(thing):
        _, _, _, held, handed, back = thing
        return len(held) + back <= own and all([cell < own for cell in held + handed])
    if not is_row(thing) or thing[0] in LINKED_VERBS:
        return False
    if thing[0] in ("jump", "nought") and thing[-1] >= many:
        return False
    return all([cell < own for cell in cells_of(thing)])


def cells_of(row):
    """The registers that a row of the machine names, in order."""
    if row[0] in ("number", "nought"):
        return row[1:2]
    if row[0] in ("jump", "call"):
        return ()
    if row[0] in OPERATIONS:
        return row[1:4]
    return row[1:]


def is_object(thing):
    """Whether any value is an object."""
    if not isinstance(thing, tuple) or len(thing) != 2 or not isinstance(thing[0], tuple):
        return False
    if not all([_is_use(use) for use in thing[0]]):
        return False
    if not isinstance(thing[1], tuple) or not all([is_piece(piece) for piece in thing[1]]):
        return False
    # Titles are unlike, so that they alone tell what comes ahead in a set.
    if not _are_ascending([use[0] for use in thing[0]]) or not _are_ascending([piece[0] for piece in thing[1]]):
        return False
    signed = [one[:3] for one in thing[0] + thing[1]]
    counts = {title: (taken_words(takes), width_of(gives)) for title, takes, gives in signed}
    return len(counts) == len(signed) and all([_are_calls_matched(piece, counts) for piece in thing[1]])


def _is_use(thing):
    return isinstance(thing, tuple) and len(thing) == 3 and _is_signed(thing)


def _are_ascending(titles):
    return all([one < other for one, other in zip(titles, titles[1:])])


def open_rows_of(piece):
    """The list of the open rows of a piece, in order of blocks and rows."""
    return [row for block in piece[4] for row in block if row[0] == "call"]


def _are_calls_matched(piece, counts):
    return all([counts.get(row[1]) == (len(row[4]), row[5]) for row in open_rows_of(piece)])
