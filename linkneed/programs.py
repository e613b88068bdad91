"""Whether graphs make up a program."""

from linkneed.errors import Missing, NotUsable, Twice, Unlike
from linkneed.graphkinds import is_settled


def lets_program(thing):
    """How many graphs the program has."""
    if not isinstance(thing, tuple) or not all([is_settled(graph) for graph in thing]):
        raise NotUsable("thing", -1)
    counts = {}
    for title, gives, blocks in thing:
        if title in counts:
            raise Twice(title)
        counts[title] = (len(blocks[0][0]), gives)
    for graph in thing:
        _let_calls(graph, counts)
    if "main" not in counts:
        raise Missing("main")
    return len(thing)


def _let_calls(graph, counts):
    # counts has how many words each function takes and gives.
    for block in graph[2]:
        for makes, verb, reads, note in block[1]:
            if verb == "call":
                if note[0] not in counts:
                    raise Missing(note[0])
                if counts[note[0]] != (len(reads), len(makes)):
                    raise Unlike(note[0])
