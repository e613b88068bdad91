"""Runs of programs of graphs, loose or settled."""

from linkneed.errors import NotUsable
from linkneed.kinds import is_number, is_word
from linkneed.operations import operated

MOST_OPEN = 16


def run_graphs(graphs, args, most):
    """The outcome of main's run with the words args and most beats."""
    takes = [graph[2][0][0] for graph in graphs if graph[0] == "main"][0]
    if not isinstance(args, tuple) or len(args) != len(takes) or not all([is_word(word) for word in args]):
        raise NotUsable("args", -1)
    if not is_number(most):
        raise NotUsable("most", -1)
    run = GraphRun(graphs, most)
    run.enter("main", args)
    while run.end is None:
        run.do_next()
    return (tuple(run.told), run.end, run.beats)


class OpenGraph:
    """A function that is open: the words of its marks, and the spot that it has come to."""

    def __init__(self, graph, args):
        self.title = graph[0]
        self.blocks = graph[2]
        self.mark_words = {}
        self.go_to(0, args)

    def go_to(self, block, handed):
        """Enters a block, which takes these words all at once."""
        self.block = block
        self.index = 0
        for mark, word in zip(self.blocks[block][0], handed):
            self.mark_words[mark] = word

    def words_of(self, marks):
        """The words of these marks."""
        return tuple([self.mark_words[mark] for mark in marks])

    def next_step(self):
        """The step ahead of which the function stands, and goes on behind it; None at the end of the block."""
        steps = self.blocks[self.block][1]
        if self.index == len(steps):
            return None
        self.index += 1
        return steps[self.index - 1]


class GraphRun:
    """A run: the open functions, what was told, the beats taken, the end if it has come."""

    def __init__(self, graphs, most):
        self.graph_by_title = {graph[0]: graph for graph in graphs}
        self.most_beats = most
        self.beats = 0
        self.told = []
        self.frames = []
        # For each call that waits the marks that it makes.
        self.awaiting_marks = []
        self.end = None

    def enter(self, title, args):
        """Opens a function."""
        self.frames.append(OpenGraph(self.graph_by_title[title], args))

    def do_next(self):
        """Does the next step or ending of the function opened last."""
        frame = self.frames[-1]
        step = frame.next_step()
        if step is None:
            self._do_ending(frame)
        elif step[1] == "beat":
            self._do_beat()
        elif step[1] == "call":
            self._do_call(frame, step)
        else:
            self._do_plain(frame, step)

    def _do_beat(self):
        if self.beats == self.most_beats:
            self.end = ("on",)
        else:
            self.beats += 1

    def _do_call(self, frame, step):
        makes, _, reads, note = step
        if len(self.frames) == MOST_OPEN:
            self.end = ("fault", "deep", frame.title, note[1])
        else:
            self.awaiting_marks.append(makes)
            self.enter(note[0], frame.words_of(reads))

    def _do_plain(self, frame, step):
        makes, verb, reads, note = step
        words = frame.words_of(reads)
        if verb == "tell":
            self.told.append(words[0])
        elif verb == "number":
            frame.mark_words[makes[0]] = note
        elif verb == "copy":
            frame.mark_words[makes[0]] = words[0]
        else:
            word = operated(verb, words[0], words[1])
            if word is None:
                self.end = ("fault", "nought", frame.title, note)
            else:
                frame.mark_words[makes[0]] = word

    def _do_ending(self, frame):
        ending = frame.blocks[frame.block][2]
        if ending[0] == "to":
            frame.go_to(ending[1], frame.words_of(ending[2]))
        elif ending[0] == "give":
            self._give(frame.words_of(ending[1]))
        elif frame.words_of(ending[1:2]) == (0,):
            frame.go_to(ending[3], ())
        else:
            frame.go_to(ending[2], ())

    def _give(self, words):
        self.frames.pop()
        if len(self.frames) == 0:
            self.end = ("gave", words)
            return
        caller = self.frames[-1]
        makes = self.awaiting_marks.pop()
        for mark, word in zip(makes, words):
            caller.mark_words[mark] = word
