"""Number deeds and same deeds: steps whose words are known, and marks that have one word."""

from linkneed.graphparts import ending_reads, handings_of, makings_of, number_words, renamed_ending, renamed_step
from linkneed.operations import OPERATIONS, operated
from linkneed.orders import dominator_tables, forward_order


def due_folds(graph):
    """The set of the number deeds and same deeds that are due."""
    words = number_words(graph)
    read = marks_read(graph)
    handings = handings_of(graph)
    found = {}
    for number, block in enumerate(graph[2]):
        for at, mark in enumerate(block[0]):
            other = _only_other(mark, [handed[at] for handed in handings[number]])
            if number != 0 and mark in read and other is not None:
                found[("same", mark, other)] = True
        for step in block[1]:
            word = known_word(step, words)
            if word is not None:
                found[("number", step[0][0], word)] = True
            if step[1] == "copy" and step[0][0] in read:
                found[("same", step[0][0], step[2][0])] = True
    for deed in _due_twice(graph, read):
        found[deed] = True
    return tuple(sorted(found))


def marks_read(graph):
    """A dict whose keys are the marks that are read somewhere."""
    read = {}
    for block in graph[2]:
        for step in block[1]:
            for mark in step[2]:
                read[mark] = True
        for mark in ending_reads(block[2]):
            read[mark] = True
    return read


def _only_other(mark, handed):
    # The one mark besides itself that is handed for a take, if there is just one.
    others = [other for other in handed if other != mark]
    if len(others) > 0 and others.count(others[0]) == len(others):
        return others[0]
    return None


def known_word(step, words):
    """The word to which an operation of known words comes; None for a fault, or where it is not known."""
    reads = step[2]
    if step[1] not in OPERATIONS or reads[0] not in words or reads[1] not in words:
        return None
    return operated(step[1], words[reads[0]], words[reads[1]])


def twice_key(step):
    """What is one for steps that make the same word; None for steps that no second one can stand for."""
    if step[1] == "number":
        return (step[1], (), step[3])
    if step[1] in OPERATIONS:
        return (step[1], step[2], 0)
    return None


def _due_twice(graph, read):
    makings = makings_of(graph)
    tables = dominator_tables(graph)
    alike = {}
    for block in graph[2]:
        for step in block[1]:
            key = twice_key(step)
            if key is not None:
                alike.setdefault(key, []).append(step[0][0])
    found = []
    for marks in list(alike.values()):
        for mark in marks:
            if mark in read:
                found.extend([("same", mark, one) for one in marks if _is_ahead(tables, makings[one], makings[mark])])
    return found


def _is_ahead(tables, one, other):
    # Whether position one strictly dominates position other.
    if one[0] == other[0]:
        return one[1] < other[1]
    return one[0] in tables[other[0]]


def folded(graph):
    """The graph behind as many number deeds and same deeds as can be done."""
    return fold_pass(graph)[0]


def fold_deeds(graph):
    """Deeds that make the folded graph, in the order in which they are done."""
    return fold_pass(graph)[1]


def fold_pass(graph):
    """The pair of the folded graph and the deeds that make it."""
    folding = Folding(graph)
    while folding.sweep():
        pass
    return (folding.graph_behind(), tuple(folding.told))


class Folding:
    """A graph in which number deeds and same deeds are done one by one."""

    def __init__(self, graph):
        self.graph = graph
        self.order = forward_order(graph)
        self.tables = dominator_tables(graph)
        self.makings = makings_of(graph)
        self.known_words = number_words(graph)
        self.rows = [list(block[1]) for block in graph[2]]
        self.endings = [block[2] for block in graph[2]]
        self.readers = self._all_readers()
        self.told = []

    def _all_readers(self):
        # For each mark the positions that read it; a block's ending stands behind its last step.
        readers = {mark: {} for mark in self.makings}
        for number, block in enumerate(self.graph[2]):
            for index, step in enumerate(block[1]):
                for mark in step[2]:
                    readers[mark][(number, index)] = True
            for mark in ending_reads(block[2]):
                readers[mark][(number, len(block[1]))] = True
        return readers

    def sweep(self):
        """Does the deeds that are due, from the start on; whether there was one."""
        before = len(self.told)
        handers = self._handers()
        alike = {}
        # Dominating steps come first, so that a key in alike has its final form.
        for block in self.order:
            for at, mark in enumerate(self.graph[2][block][0]):
                other = _only_other(mark, [self.endings[hander][2][at] for hander in handers[block]])
                if block != 0 and other is not None:
                    self._make_same(mark, other)
            for index in range(len(self.rows[block])):
                self._fold_step(block, index, alike)
        return len(self.told) > before

    def _handers(self):
        handers = [[] for _ in self.endings]
        for number, ending in enumerate(self.endings):
            if ending[0] == "to":
                handers[ending[1]].append(number)
        return handers

    def _fold_step(self, block, index, alike):
        word = known_word(self.rows[block][index], self.known_words)
        if word is not None:
            self._make_number(block, index, word)
        step = self.rows[block][index]
        if step[1] == "copy":
            self._make_same(step[0][0], step[2][0])
        key = twice_key(step)
        if key is None:
            return
        mark = step[0][0]
        former = alike.setdefault(key, [])
        ahead = [one for one in former if _is_ahead(self.tables, self.makings[one], self.makings[mark])]
        if len(ahead) > 0:
            self._make_same(mark, ahead[0])
        else:
            former.append(mark)

    def _make_number(self, block, index, word):
        makes, _, reads, _ = self.rows[block][index]
        for mark in reads:
            self.readers[mark].pop((block, index), None)
        self.rows[block][index] = (makes, "number", (), word)
        self.known_words[makes[0]] = word
        self.told.append(("number", makes[0], word))

    def _make_same(self, mark, other):
        if len(self.readers[mark]) == 0:
            return
        names = {mark: other}
        for block, index in list(self.readers[mark]):
            if index < len(self.rows[block]):
                self.rows[block][index] = renamed_step(self.rows[block][index], names)
            else:
                self.endings[block] = renamed_ending(self.endings[block], names)
            self.readers[other][(block, index)] = True
        self.readers[mark] = {}
        self.told.append(("same", mark, other))

    def graph_behind(self):
        """The graph as it stands now."""
        blocks = []
        for number, block in enumerate(self.graph[2]):
            blocks.append((block[0], tuple(self.rows[number]), self.endings[number]))
        return (self.graph[0], self.graph[1], tuple(blocks))
