"""Whether units are bound."""

from linkneed.errors import Missing, NotUsable, Twice, Unlike
from linkneed.judging import is_fit
from linkneed.structures import signatures_in


def lets_units(units):
    """How many functions the units have, if they are bound."""
    if not isinstance(units, tuple) or not all([is_fit(unit) for unit in units]):
        raise NotUsable("units", -1)
    _check_twice([unit[0] for unit in units])
    titles = [function[0] for unit in units for function in unit[3]]
    _check_twice(titles)
    signatures = {}
    for unit in units:
        told = signatures_in(unit)
        for function in unit[3]:
            signatures[function[0]] = told[function[0]]
    for unit in units:
        _check_uses(unit, signatures)
    if "main" not in signatures:
        raise Missing("main")
    return len(titles)


def _check_twice(titles):
    met = {}
    for title in titles:
        if title in met:
            raise Twice(title)
        met[title] = True


def _check_uses(unit, signatures):
    told = signatures_in(unit)
    for title, _, _ in unit[2]:
        if title not in signatures:
            raise Missing(title)
        if signatures[title] != told[title]:
            raise Unlike(title)
