"""What the steps and endings of graphs read, make and name."""

SAFE_VERBS = ("number", "copy", "add", "sub", "mul", "less", "same")


def named_blocks(ending):
    """The blocks that an ending names, in the order in which it does."""
    if ending[0] == "to":
        return (ending[1],)
    if ending[0] == "by":
        return (ending[2], ending[3])
    return ()


def ending_reads(ending):
    """The marks that an ending reads, in order."""
    if ending[0] == "to":
        return ending[2]
    if ending[0] == "by":
        return (ending[1],)
    return ending[1]


def handings_of(graph):
    """For each block the list of what is handed to it, one tuple for each ending that goes there by "to"."""
    handings = [[] for _ in graph[2]]
    for block in graph[2]:
        if block[2][0] == "to":
            handings[block[2][1]].append(block[2][2])
    return handings


def renamed_step(step, names):
    """The step with other marks read, by a dict; what it makes stays."""
    makes, verb, reads, note = step
    return (makes, verb, renamed_marks(reads, names), note)


def renamed_ending(ending, names):
    """The ending with other marks read, by a dict."""
    if ending[0] == "to":
        return ("to", ending[1], renamed_marks(ending[2], names))
    if ending[0] == "by":
        return ("by", names.get(ending[1], ending[1]), ending[2], ending[3])
    return ("give", renamed_marks(ending[1], names))


def renamed_graph(graph, names):
    """The graph with other marks read everywhere, by a dict."""
    blocks = []
    for takes, steps, ending in graph[2]:
        renamed = tuple([renamed_step(step, names) for step in steps])
        blocks.append((takes, renamed, renamed_ending(ending, names)))
    return (graph[0], graph[1], tuple(blocks))


def renamed_marks(marks, names):
    """The marks, each one that is a key of names replaced."""
    return tuple([names.get(mark, mark) for mark in marks])


def with_steps(graph, number, steps):
    """The graph with other steps in one block."""
    blocks = list(graph[2])
    takes, _, ending = blocks[number]
    blocks[number] = (takes, steps, ending)
    return (graph[0], graph[1], tuple(blocks))


def number_words(graph):
    """A dict that has the word of each mark made by a number step."""
    return {step[0][0]: step[3] for block in graph[2] for step in block[1] if step[1] == "number"}


def is_safe(step, words):
    """Whether leaving a step out or moving it changes no outcome; words are those of number_words."""
    if step[1] in ("div", "rem"):
        return words.get(step[2][1], 0) != 0
    return step[1] in SAFE_VERBS


def makings_of(graph):
    """A dict that has for each mark the position that makes it: (block, index of the step), -1 for the entry."""
    makings = {}
    for number, block in enumerate(graph[2]):
        for mark in block[0]:
            makings[mark] = (number, -1)
        for index, step in enumerate(block[1]):
            for mark in step[0]:
                makings[mark] = (number, index)
    return makings


def step_at(graph, place):
    """The step at such a position; None for an entry."""
    block, index = place
    if index < 0:
        return None
    return graph[2][block][1][index]
