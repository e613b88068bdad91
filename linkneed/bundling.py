"""Objects bundled into one."""

from linkneed.errors import NotUsable, Twice, Unlike
from linkneed.rowkinds import is_object


def bundle(objects):
    """The object with all pieces, and with all uses whose title no piece has."""
    if not isinstance(objects, tuple) or not all([is_object(one) for one in objects]):
        raise NotUsable("objects", -1)
    pieces = [piece for _, some in objects for piece in some]
    _check_twice([piece[0] for piece in pieces])
    signed = {piece[0]: piece[1:3] for piece in pieces}
    used = {}
    unlike = []
    for title, takes, gives in [use for some, _ in objects for use in some]:
        if signed.setdefault(title, (takes, gives)) != (takes, gives):
            unlike.append(title)
        used[title] = (title, takes, gives)
    if len(unlike) > 0:
        raise Unlike(min(unlike))
    owned = {piece[0]: piece for piece in pieces}
    uses = tuple([used[title] for title in sorted(used) if title not in owned])
    return (uses, tuple([owned[title] for title in sorted(owned)]))


def _check_twice(titles):
    ordered = sorted(titles)
    for one, other in zip(ordered, ordered[1:]):
        if one == other:
            raise Twice(one)
