"""Outcomes that are the beginning of others."""


def is_beginning(one, other):
    """Whether one is equal to other, or may become it with more beats to take."""
    if one == other:
        return True
    told, end, beats = one
    return end == ("on",) and other[0][:len(told)] == told and beats <= other[2]
