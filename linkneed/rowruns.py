"""Runs of linked rows."""

from linkneed.errors import NotUsable
from linkneed.kinds import is_number, is_word
from linkneed.operations import OPERATIONS, operated

MOST_OPEN = 16


def run_linked(linked, args, most):
    """The outcome of what link gave, run with the words args and most beats."""
    if not isinstance(args, tuple) or len(args) != linked[1] or not all([is_word(word) for word in args]):
        raise NotUsable("args", -1)
    if not is_number(most):
        raise NotUsable("most", -1)
    run = RowRun(linked, args, most)
    end = None
    while end is None:
        end = run.do_row()
    return (tuple(run.told), end, run.beats)


class RowRun:
    """The registers, the pile and the open functions of a run."""

    def __init__(self, linked, args, most):
        need, takes, gives, functions = linked
        self.cells = list(args) + [0] * (need - takes)
        self.many_given = gives
        self.rows_by_title = {title: rows for title, _, rows in functions}
        self.title = "main"
        self.at = 0
        self.most_beats = most
        self.beats = 0
        self.told = []
        self.pile = []
        self.behind_calls = []

    def do_row(self):
        """Does the present row; the end of the run, or None if it goes on."""
        row = self.rows_by_title[self.title][self.at]
        self.at += 1
        verb = row[0]
        if verb in OPERATIONS:
            return self._operation_row(row)
        if verb == "call":
            return self._call_row(row)
        if verb == "back":
            return self._back_row()
        if verb == "beat":
            return self._beat_row()
        if verb in ("jump", "nought"):
            if verb == "jump" or self.cells[row[1]] == 0:
                self.at = row[-1]
        elif verb in ("number", "move", "swap"):
            self._moving_row(row)
        else:
            self._telling_row(verb, row[1])
        return None

    def _operation_row(self, row):
        word = operated(row[0], self.cells[row[2]], self.cells[row[3]])
        if word is None:
            return ("fault", "nought", self.title, row[4])
        self.cells[row[1]] = word
        return None

    def _call_row(self, row):
        # Main is open besides those that wait behind a call.
        if len(self.behind_calls) + 1 == MOST_OPEN:
            return ("fault", "deep", self.title, row[2])
        self.behind_calls.append((self.title, self.at))
        self.title = row[1]
        self.at = 0
        return None

    def _back_row(self):
        if len(self.behind_calls) == 0:
            return ("gave", tuple(self.cells[:self.many_given]))
        self.title, self.at = self.behind_calls.pop()
        return None

    def _beat_row(self):
        if self.beats == self.most_beats:
            return ("on",)
        self.beats += 1
        return None

    def _moving_row(self, row):
        verb, one, other = row
        if verb == "number":
            self.cells[one] = other
        elif verb == "move":
            self.cells[one] = self.cells[other]
        else:
            self.cells[one], self.cells[other] = self.cells[other], self.cells[one]

    def _telling_row(self, verb, cell):
        if verb == "tell":
            self.told.append(self.cells[cell])
        elif verb == "keep":
            self.pile.append(self.cells[cell])
        else:
            self.cells[cell] = self.pile.pop()
