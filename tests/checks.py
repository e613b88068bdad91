"""What several test files ask of errors."""


def refusal(function, *args, **named):
    """The pair (name of the error's class, dict of its fields) that a call raises."""
    try:
        result = function(*args, **named)
    except Exception as error:
        return (type(error).__name__, vars(error))
    raise AssertionError(f"nothing raised, returned {result!r}")


def unusable(name):
    return ("NotUsable", {"word": name, "at": -1})


def same_kind(one, other):
    """Whether two values are equal with True unlike 1, and tuples unlike lists."""
    if type(one) is not type(other):
        return False
    if isinstance(one, (tuple, list)):
        return len(one) == len(other) and all(map(same_kind, one, other))
    return one == other
