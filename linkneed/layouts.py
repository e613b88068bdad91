"""Which jumps have to be long."""

from linkneed.errors import NotUsable
from linkneed.kinds import is_integer, is_number, is_number_set


def long_jumps(things, low, high):
    """The least set of jumps that holds."""
    _check_layout(things, low, high)
    return tuple(sorted(least_long(things, low, high)))


def holds_long(things, low, high, chosen):
    """Whether the choice of these jumps holds."""
    _check_layout(things, low, high)
    if not is_number_set(chosen) or not all([at < len(things) and is_jump(things[at]) for at in chosen]):
        raise NotUsable("chosen", -1)
    return len(_too_far(things, low, high, {at: True for at in chosen})) == 0


def least_long(things, low, high):
    """A dict whose keys are what long_jumps tells, for things of any number that are not judged."""
    chosen = {}
    # No jump that is too far now can be short in a choice that holds: more long ones only make it farther.
    far = _too_far(things, low, high, chosen)
    while len(far) > 0:
        for at in far:
            chosen[at] = True
        far = _too_far(things, low, high, chosen)
    return chosen


def addresses_of(things, chosen):
    """The list of the addresses of the things and of what stands behind them, by a dict whose keys are long jumps."""
    addresses = [0]
    for at, thing in enumerate(things):
        length = thing
        if is_jump(thing):
            length = 1 + int(at in chosen)
        addresses.append(addresses[-1] + length)
    return addresses


def is_jump(thing):
    """Whether a thing is a jump, not a length."""
    return isinstance(thing, tuple)


def _too_far(things, low, high, chosen):
    addresses = addresses_of(things, chosen)
    far = []
    for at, thing in enumerate(things):
        if is_jump(thing) and at not in chosen and not low <= addresses[thing[1]] - addresses[at] <= high:
            far.append(at)
    return far


def _check_layout(things, low, high):
    if not isinstance(things, tuple) or not all([_is_thing(thing, len(things)) for thing in things]):
        raise NotUsable("things", -1)
    if not is_integer(low) or low > 0:
        raise NotUsable("low", -1)
    if not is_number(high):
        raise NotUsable("high", -1)


def _is_thing(thing, many):
    if not isinstance(thing, tuple):
        return is_number(thing)
    return len(thing) == 2 and thing[0] == "jump" and is_number(thing[1]) and thing[1] <= many
