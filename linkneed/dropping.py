"""Drop deeds: steps and takes that nothing else reads."""

from linkneed.graphparts import ending_reads, is_safe, number_words


def spare_marks(graph):
    """The set of marks whose drop deed is due and that has all other such sets in it; () if there is none."""
    words = number_words(graph)
    sources = sources_of(graph, words)
    needed = {}
    pending = read_by_the_rest(graph, words)
    while pending:
        mark = pending.pop()
        if mark not in needed:
            needed[mark] = True
            pending.extend(sources.get(mark, ()))
    return tuple(sorted([mark for mark in sources if mark not in needed]))


def sources_of(graph, words):
    """A dict that has for each mark that may go the marks read for it alone; words are those of number_words."""
    sources = {}
    for block in graph[2]:
        for step in block[1]:
            if is_safe(step, words):
                sources[step[0][0]] = list(step[2])
    for number, block in enumerate(graph[2]):
        if number != 0:
            for mark in block[0]:
                sources[mark] = []
    for block in graph[2]:
        if block[2][0] == "to":
            for mark, handed in zip(graph[2][block[2][1]][0], block[2][2]):
                sources[mark].append(handed)
    return sources


def read_by_the_rest(graph, words):
    """The list of what steps that stay in any case, and endings that give or choose, read."""
    read = []
    for block in graph[2]:
        for step in block[1]:
            if not is_safe(step, words):
                read.extend(step[2])
        if block[2][0] != "to":
            read.extend(ending_reads(block[2]))
    return read


def dropped(graph):
    """The graph without its spare marks."""
    return drop_pass(graph)[0]


def drop_pass(graph):
    """The pair of the graph without its spare marks and the deeds that make it, one or none."""
    marks = spare_marks(graph)
    if len(marks) == 0:
        return (graph, ())
    return (without_marks(graph, marks), (("drop", marks),))


def without_marks(graph, marks):
    """The graph without the steps that make one of the marks, these takes, and what is handed for them."""
    gone = {mark: True for mark in marks}
    blocks = []
    for takes, steps, ending in graph[2]:
        kept = tuple([step for step in steps if not any([mark in gone for mark in step[0]])])
        left = tuple([mark for mark in takes if mark not in gone])
        blocks.append((left, kept, _ending_without(graph, ending, gone)))
    return (graph[0], graph[1], tuple(blocks))


def _ending_without(graph, ending, gone):
    if ending[0] != "to":
        return ending
    takes = graph[2][ending[1]][0]
    handed = tuple([one for mark, one in zip(takes, ending[2]) if mark not in gone])
    return ("to", ending[1], handed)
