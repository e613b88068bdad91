"""Runs of loaded words."""

from linkneed.errors import NotUsable
from linkneed.kinds import is_number, is_word
from linkneed.operations import OPERATIONS, operated
from linkneed.wordcodes import (
    BACK, BEAT, CALL, KEEP, LONG_JUMP, LONG_NOUGHT, MOVE, NUMBER, PLAIN, SHORT_JUMP, SHORT_OFFSET, SWAP, TELL, parts_of)

MOST_OPEN = 16


def run_image(image, args, most):
    """The outcome of an image of load, run with the words args and most beats."""
    takes = image[3]
    if not isinstance(args, tuple) or len(args) != takes or not all([is_word(word) for word in args]):
        raise NotUsable("args", -1)
    if not is_number(most):
        raise NotUsable("most", -1)
    run = ImageRun(image, args, most)
    end = None
    while end is None:
        end = run.row()
    return (tuple(run.told), end, run.beats)


class ImageRun:
    """The registers, the pile and the open functions of a run."""

    def __init__(self, image, args, most):
        self.image_words = image[0]
        self.at = image[1]
        self.cells = list(args) + [0] * (image[2] - len(args))
        self.many_given = image[4]
        self.places = {address: (title, number) for address, title, number in image[5]}
        self.most_beats = most
        self.beats = 0
        self.told = []
        self.pile = []
        self.behind_calls = []

    def row(self):
        """Does the row at the present address; the end of the run, or None if it goes on."""
        verb, b, c, d = parts_of(self.image_words[self.at])
        if verb == PLAIN:
            return self._plain_row(b, c)
        if verb == CALL:
            return self._call_row()
        if SWAP < verb < SHORT_JUMP:
            return self._operation_row(OPERATIONS[verb - SWAP - 1], b, c, d)
        if verb <= SWAP:
            self._moving_row(verb, b, c)
        elif verb <= LONG_JUMP:
            self._jump(verb == LONG_JUMP, d)
        elif self.cells[b] == 0:
            self._jump(verb == LONG_NOUGHT, d)
        elif verb == LONG_NOUGHT:
            self.at += 2
        else:
            self.at += 1
        return None

    def _plain_row(self, which, cell):
        if which == BACK:
            return self._back_row()
        if which == BEAT:
            if self.beats == self.most_beats:
                return ("on",)
            self.beats += 1
        elif which == TELL:
            self.told.append(self.cells[cell])
        elif which == KEEP:
            self.pile.append(self.cells[cell])
        else:
            self.cells[cell] = self.pile.pop()
        self.at += 1
        return None

    def _back_row(self):
        if len(self.behind_calls) == 0:
            return ("gave", tuple(self.cells[:self.many_given]))
        self.at = self.behind_calls.pop()
        return None

    def _call_row(self):
        # Main is open besides those that wait behind a call.
        if len(self.behind_calls) + 1 == MOST_OPEN:
            return self._fault("deep")
        self.behind_calls.append(self.at + 2)
        self.at = self.image_words[self.at + 1]
        return None

    def _moving_row(self, verb, one, other):
        if verb == NUMBER:
            self.cells[one] = self.image_words[self.at + 1]
            self.at += 2
            return
        if verb == MOVE:
            self.cells[one] = self.cells[other]
        else:
            self.cells[one], self.cells[other] = self.cells[other], self.cells[one]
        self.at += 1

    def _operation_row(self, operation, cell, one, other):
        word = operated(operation, self.cells[one], self.cells[other])
        if word is None:
            return self._fault("nought")
        self.cells[cell] = word
        self.at += 1
        return None

    def _jump(self, is_long, distance):
        if is_long:
            self.at = self.image_words[self.at + 1]
        else:
            self.at += distance - SHORT_OFFSET

    def _fault(self, word):
        title, number = self.places[self.at]
        return ("fault", word, title, number)
