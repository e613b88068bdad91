"""Whether a unit is fit."""

from linkneed.bodyjudging import kinds_of_body
from linkneed.errors import NotUsable, Unfit, UnitError
from linkneed.unitforms import is_unit


def judge_unit(unit):
    """How many expressions the unit's bodies have, if it is fit."""
    if not is_unit(unit):
        raise NotUsable("unit", -1)
    kinds = {"word": True}
    _judge_shapes(unit[1], kinds)
    titles = {}
    for at, (title, takes, gives) in enumerate(unit[2]):
        _judge_title(title, titles, (2, at))
        for index, kind in enumerate(takes):
            _judge_kind(kind, kinds, (2, at, 1, index))
        _judge_kind(gives, kinds, (2, at, 2))
    for at, function in enumerate(unit[3]):
        _judge_title(function[0], titles, (3, at))
        _judge_params(function[1], kinds, (3, at, 1))
        _judge_kind(function[2], kinds, (3, at, 2))
    return sum([len(kinds_of_body(unit, number)) for number in range(len(unit[3]))])


def is_fit(unit):
    """Whether any value is a fit unit."""
    try:
        judge_unit(unit)
    except UnitError:
        return False
    return True


def _judge_title(title, titles, path):
    if title in titles:
        raise Unfit("twice", path)
    titles[title] = True


def _judge_kind(kind, kinds, path):
    if kind not in kinds:
        raise Unfit("unknown", path)


def _judge_shapes(shapes, kinds):
    # A shape is a kind only behind its own fields.
    for at, (title, cases) in enumerate(shapes):
        if title in kinds:
            raise Unfit("twice", (1, at))
        case_titles = {}
        for number, (case, fields) in enumerate(cases):
            _judge_title(case, case_titles, (1, at, 1, number))
            for index, kind in enumerate(fields):
                _judge_kind(kind, kinds, (1, at, 1, number, 1, index))
        kinds[title] = True


def _judge_params(params, kinds, path):
    titles = {}
    for index, (title, kind) in enumerate(params):
        _judge_title(title, titles, path + (index,))
        _judge_kind(kind, kinds, path + (index, 1))
