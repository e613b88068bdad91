"""Structures of kinds, their widths, and what functions take and give."""

from linkneed.errors import Missing, NotUsable


def structure_of(unit, kind):
    """The structure of "word" or of a shape of the unit."""
    structures = structures_in(unit)
    if not isinstance(kind, str) or kind not in structures:
        raise NotUsable("kind", -1)
    return structures[kind]


def structures_in(unit):
    """A dict that has the structure of each kind of the unit."""
    structures = {"word": "word"}
    for title, cases in unit[1]:
        structures[title] = tuple([tuple([structures[kind] for kind in fields]) for _, fields in cases])
    return structures


def width_of(structure):
    """How many words a value of this structure has."""
    if structure == "word":
        return 1
    widths = [sum([width_of(field) for field in fields]) for fields in structure]
    if len(widths) == 1:
        return widths[0]
    return 1 + max(widths)


def noughts_of(structure):
    """The value of this structure whose words are all 0."""
    return (0,) * width_of(structure)


def signature_of(unit, title):
    """The pair of the structures taken and the one given by the function or use of this title."""
    signatures = signatures_in(unit)
    if not isinstance(title, str) or title not in signatures:
        raise Missing(title)
    return signatures[title]


def signatures_in(unit):
    """A dict that has what signature_of tells for each use and function of the unit."""
    structures = structures_in(unit)
    signatures = {}
    for title, takes, gives in unit[2]:
        signatures[title] = (tuple([structures[kind] for kind in takes]), structures[gives])
    for title, params, gives, _ in unit[3]:
        signatures[title] = (tuple([structures[kind] for _, kind in params]), structures[gives])
    return signatures


def case_numbers_in(unit):
    """A dict that has for each shape of the unit a dict of the numbers of its cases."""
    return {title: {case[0]: number for number, case in enumerate(cases)} for title, cases in unit[1]}
