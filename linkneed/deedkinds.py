"""Whether values are deeds by their form."""

from linkneed.kinds import is_number, is_number_set, is_word


def is_deed(thing):
    """Whether any value is a deed by its form."""
    if not isinstance(thing, tuple) or len(thing) == 0:
        return False
    if thing[0] == "number":
        return len(thing) == 3 and is_number(thing[1]) and is_word(thing[2])
    if thing[0] in ("same", "ahead"):
        return len(thing) == 3 and is_number(thing[1]) and is_number(thing[2])
    if thing[0] in ("straight", "join"):
        return len(thing) == 2 and is_number(thing[1])
    return thing[0] == "drop" and len(thing) == 2 and is_number_set(thing[1]) and len(thing[1]) > 0
