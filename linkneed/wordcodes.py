"""How the rows of the machine are written as words."""

# The first four bits of a row's first word; the operations stand between SWAP and SHORT_JUMP.
PLAIN = 0
NUMBER = 1
MOVE = 2
SWAP = 3
SHORT_JUMP = 11
LONG_JUMP = 12
SHORT_NOUGHT = 13
LONG_NOUGHT = 14
CALL = 15

# What a short jump's distance is raised by, and the distances that it may have.
SHORT_OFFSET = 8
SHORT_LOW = -8
SHORT_HIGH = 7

# The verbs of plain rows, by the next four bits.
PLAIN_VERBS = ("beat", "back", "tell", "keep", "fetch")
BEAT = 0
BACK = 1
TELL = 2
KEEP = 3


def parts_of(word):
    """The four parts, of four bits each, of a row's first word."""
    return (word // 4096, word // 256 & 15, word // 16 & 15, word & 15)


def word_of(verb, b=0, c=0, d=0):
    """The first word of a row with these parts."""
    return verb * 4096 + b * 256 + c * 16 + d
