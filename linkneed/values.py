"""Values as words, and in their nested form."""

from linkneed.errors import NotUsable
from linkneed.kinds import is_number, is_word
from linkneed.structures import width_of


def is_value(structure, words):
    """Whether any value is a value of a kind with this structure."""
    if not isinstance(words, tuple) or not all([is_word(word) for word in words]):
        return False
    return len(words) == width_of(structure) and _is_value(structure, words)


def _is_value(structure, words):
    # words are as many as the structure is wide.
    if structure == "word":
        return True
    case, rest = _case_of(structure, words)
    if case >= len(structure):
        return False
    for field in structure[case]:
        width = width_of(field)
        if not _is_value(field, rest[:width]):
            return False
        rest = rest[width:]
    return not any(rest)


def _case_of(structure, words):
    # The number of the case, and the words of the fields with what is left over.
    if len(structure) == 1:
        return (0, words)
    return (words[0], words[1:])


def nested_of(structure, words):
    """The nested form of a value."""
    if not is_value(structure, words):
        raise NotUsable("words", -1)
    return nested(structure, words)


def nested(structure, words):
    """What nested_of tells, for a value that is not judged."""
    if structure == "word":
        return words[0]
    case, rest = _case_of(structure, words)
    parts = []
    for field in structure[case]:
        width = width_of(field)
        parts.append(nested(field, rest[:width]))
        rest = rest[width:]
    return (case, tuple(parts))


def flat_of(structure, value):
    """The value with this nested form."""
    if not _is_nested(structure, value):
        raise NotUsable("value", -1)
    return flat(structure, value)


def flat(structure, value):
    """What flat_of tells, for a nested form that is not judged."""
    if structure == "word":
        return (value,)
    case, parts = value
    words = ()
    if len(structure) > 1:
        words = (case,)
    for field, part in zip(structure[case], parts):
        words = words + flat(field, part)
    return words + (0,) * (width_of(structure) - len(words))


def _is_nested(structure, value):
    if structure == "word":
        return is_word(value)
    if not isinstance(value, tuple) or len(value) != 2 or not is_number(value[0]) or value[0] >= len(structure):
        return False
    fields = structure[value[0]]
    if not isinstance(value[1], tuple) or len(value[1]) != len(fields):
        return False
    return all([_is_nested(field, part) for field, part in zip(fields, value[1])])
