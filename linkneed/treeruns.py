"""Runs of units."""

from linkneed.bodycodes import code_of
from linkneed.errors import NotUsable
from linkneed.kinds import is_number
from linkneed.operations import OPERATIONS, operated
from linkneed.structures import noughts_of, signatures_in, width_of
from linkneed.values import flat, is_value, nested

MOST_OPEN = 16


def run_units(units, args, most):
    """The outcome of the run of the units with the words args and most beats."""
    run = ended_run(units, args, most)
    return (tuple(run.told), run.end, run.beats)


def ended_run(units, args, most):
    """The run of run_units, when it has ended."""
    taken = _taken_values(units, args)
    if taken is None:
        raise NotUsable("args", -1)
    if not is_number(most):
        raise NotUsable("most", -1)
    run = UnitsRun(units, most)
    run.enter("main", taken)
    while run.end is None:
        run.do_row()
    return run


def _taken_values(units, args):
    # The nested forms of what main takes; None if args are no such values.
    if not isinstance(args, tuple):
        return None
    takes = [signatures_in(unit)["main"][0] for unit in units if any([one[0] == "main" for one in unit[3]])][0]
    values = []
    for structure in takes:
        width = width_of(structure)
        if not is_value(structure, args[:width]):
            return None
        values.append(nested(structure, args[:width]))
        args = args[width:]
    if len(args) > 0:
        return None
    return values


class Frame:
    """An open function: its title, the next row of its code, its titles bound."""

    def __init__(self, title, bound):
        self.title = title
        self.at = 0
        self.bound = bound


class UnitsRun:
    """A run; entries has how often each function was entered, most_open how many were open at once."""

    def __init__(self, units, most):
        self.codes = {}
        self.params = {}
        self.given = {}
        for unit in units:
            signatures = signatures_in(unit)
            for number, function in enumerate(unit[3]):
                self.codes[function[0]] = code_of(unit, number)
                self.params[function[0]] = [title for title, _ in function[1]]
                self.given[function[0]] = signatures[function[0]][1]
        self.entries = {title: 0 for title in self.codes}
        self.most_open = 0
        self.most_beats = most
        self.beats = 0
        self.told = []
        self.frames = []
        self.worked_out = []
        self.end = None

    def enter(self, title, values):
        """Enters a function, or ends the run if it finds no beat."""
        if self._beat():
            self.frames.append(Frame(title, dict(zip(self.params[title], values))))
            self.entries[title] += 1
            self.most_open = max(self.most_open, len(self.frames))

    def _beat(self):
        if self.beats == self.most_beats:
            self.end = ("on",)
            return False
        self.beats += 1
        return True

    def do_row(self):
        """Does the next row of the function entered last."""
        frame = self.frames[-1]
        row = self.codes[frame.title][frame.at]
        frame.at += 1
        verb = row[0]
        if verb == "number":
            self.worked_out.append(row[1])
        elif verb == "name":
            self.worked_out.append(frame.bound[row[1]])
        elif verb == "case":
            parts = tuple(self._taken(row[2]))
            self.worked_out.append((row[1], parts))
        elif verb == "call":
            self._call(frame.title, row)
        elif verb in OPERATIONS:
            self._operate(frame.title, row)
        elif verb in ("jump", "nought", "when"):
            self._go_on(frame, row)
        elif verb == "bind":
            frame.bound[row[1]] = self.worked_out.pop()
        elif verb == "tell":
            self.told.append(self.worked_out.pop())
        elif verb == "beat":
            self._beat()
        else:
            self._leave(frame.title, verb)

    def _taken(self, many):
        # The last values, in order.
        start = len(self.worked_out) - many
        values = self.worked_out[start:]
        self.worked_out = self.worked_out[:start]
        return values

    def _call(self, caller, row):
        _, title, place, many = row
        values = self._taken(many)
        if len(self.frames) == MOST_OPEN:
            self.end = ("fault", "deep", caller, place)
        else:
            self.enter(title, values)

    def _operate(self, title, row):
        one, other = self._taken(2)
        word = operated(row[0], one, other)
        if word is None:
            self.end = ("fault", "nought", title, row[1])
        else:
            self.worked_out.append(word)

    def _go_on(self, frame, row):
        verb, target = row
        if verb == "jump":
            frame.at = target
            return
        value = self.worked_out.pop()
        if verb == "when":
            frame.at = target[value[0]]
            self.worked_out.extend(value[1])
        elif value == 0:
            frame.at = target

    def _leave(self, title, verb):
        # At the end of a body without a give the function gives noughts.
        structure = self.given[title]
        if verb == "end":
            self.worked_out.append(nested(structure, noughts_of(structure)))
        self.frames.pop()
        if len(self.frames) == 0:
            self.end = ("gave", flat(structure, self.worked_out.pop()))
