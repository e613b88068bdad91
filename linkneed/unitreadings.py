"""Units read from their texts."""

from linkneed.errors import InvalidText, NotUsable
from linkneed.kinds import is_title
from linkneed.openparts import OpenPart, read_statement
from linkneed.unitforms import is_kind


def read_unit(text):
    """The unit whose text it is."""
    if not isinstance(text, str):
        raise NotUsable("text", -1)
    lines = text.split("\n")
    reading = UnitReading()
    for number, line in enumerate(lines):
        if not reading.takes_line(line.split(" ")):
            raise InvalidText(number)
    if not reading.is_whole():
        raise InvalidText(len(lines))
    return reading.unit_read()


class UnitReading:
    """A unit as its lines are read; each line that is taken can be followed up to a whole text."""

    def __init__(self):
        self.unit_title = None
        self.shapes_read = []
        self.uses_read = []
        self.functions_read = []
        # The parts whose end has not come, each one within the one ahead of it.
        self.open_parts = []

    def is_whole(self):
        """Whether the lines, at least one, are a text."""
        return len(self.open_parts) == 0

    def unit_read(self):
        """The unit of a whole text."""
        return (self.unit_title, tuple(self.shapes_read), tuple(self.uses_read), tuple(self.functions_read))

    def takes_line(self, words):
        """Whether a line of these words may stand behind those taken; takes it in."""
        if self.unit_title is None:
            return self._take_unit(words)
        if len(self.open_parts) == 0:
            return self._take_outer(words)
        if words == ["end"]:
            return self._take_end()
        part = self.open_parts[-1]
        if part.takes_line(words):
            return True
        return part.body is not None and self._take_statement(part, words)

    def _take_unit(self, words):
        if len(words) != 2 or words[0] != "unit" or not is_title(words[1]):
            return False
        self.unit_title = words[1]
        return True

    def _take_outer(self, words):
        if len(words) < 2 or not is_title(words[1]):
            return False
        if words[0] == "use":
            return len(self.functions_read) == 0 and self._take_use(words)
        if words[0] == "shape" and len(words) == 2:
            if len(self.uses_read) > 0 or len(self.functions_read) > 0:
                return False
            self.open_parts.append(OpenPart("shape", (words[1],)))
            return True
        if words[0] != "function" or len(words) != 4 or words[2] != "gives" or not is_kind(words[3]):
            return False
        self.open_parts.append(OpenPart("function", (words[1], words[3])))
        return True

    def _take_use(self, words):
        takes = words[2:-2]
        if len(words) < 4 or words[-2] != "gives" or not all([is_kind(word) for word in takes + words[-1:]]):
            return False
        self.uses_read.append((words[1], tuple(takes), words[-1]))
        return True

    def _take_end(self):
        part = self.open_parts[-1]
        whole = part.ended()
        if whole is None:
            return False
        self.open_parts.pop()
        if part.word == "shape":
            self.shapes_read.append(whole)
        elif part.word == "function":
            self.functions_read.append(whole)
        else:
            self.open_parts[-1].body.append(whole)
        return True

    def _take_statement(self, part, words):
        statement = read_statement(words)
        if statement is None:
            return False
        if isinstance(statement, OpenPart):
            self.open_parts.append(statement)
        else:
            part.body.append(statement)
        return True
