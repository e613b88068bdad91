"""What the document says of graphs, told plainly and slowly, to compare the program with."""

from itertools import combinations


def named(ending):
    return ending[1:2] if ending[0] == "to" else ending[2:] if ending[0] == "by" else ()


def reads_of_ending(ending):
    return {"to": lambda: ending[2], "by": lambda: (ending[1],), "give": lambda: ending[1]}[ending[0]]()


def marks_of(graph):
    found = []
    for takes, steps, _ in graph[2]:
        found += takes
        for step in steps:
            found += step[0]
    return sorted(set(found))


def reached(graph, without=None):
    met = set()
    pending = [0] if without != 0 else []
    while pending:
        block = pending.pop()
        if block not in met:
            met.add(block)
            pending += [one for one in named(graph[2][block][2]) if one != without]
    return met


def dominates(graph, one, other):
    return one == other or other not in reached(graph, one)


def nearest_dominator(graph, block):
    above = [one for one in range(len(graph[2])) if one != block and dominates(graph, one, block)]
    for one in above:
        if all(dominates(graph, other, one) for other in above):
            return one
    return None


def is_awaited(graph, mark, block, index):
    met = set()
    pending = [(block, index)]
    while pending:
        spot = pending.pop()
        if spot in met:
            continue
        met.add(spot)
        _, steps, ending = graph[2][spot[0]]
        if spot[1] < len(steps):
            step = steps[spot[1]]
            if mark in step[2]:
                return True
            if mark not in step[0]:
                pending.append((spot[0], spot[1] + 1))
            continue
        if mark in reads_of_ending(ending):
            return True
        pending += [(one, 0) for one in named(ending) if mark not in graph[2][one][0]]
    return False


def awaited(graph, block, index):
    return tuple(mark for mark in marks_of(graph) if is_awaited(graph, mark, block, index))


def made_just_ahead(graph, block, index):
    return graph[2][block][0] if index == 0 else graph[2][block][1][index - 1][0]


def alive(graph, block, index):
    return tuple(sorted(set(awaited(graph, block, index)) | set(made_just_ahead(graph, block, index))))


def spots(graph):
    return [(block, index) for block in range(len(graph[2])) for index in range(len(graph[2][block][1]) + 1)]


def across(graph, block, index):
    makes = graph[2][block][1][index][0]
    return tuple(mark for mark in awaited(graph, block, index + 1) if mark not in makes)


def making(graph, mark):
    for number, (takes, steps, _) in enumerate(graph[2]):
        if mark in takes:
            return (number, -1)
        for index, step in enumerate(steps):
            if mark in step[0]:
                return (number, index)
    return None


def step_of(graph, mark):
    place = making(graph, mark)
    if place is None or place[1] < 0:
        return None
    return graph[2][place[0]][1][place[1]]


def strictly_ahead(graph, one, other):
    if one[0] == other[0]:
        return one[1] < other[1]
    return dominates(graph, one[0], other[0])


def readings(graph):
    """Pairs (mark, what reads it): ("step", block, index), ("handed", block, target, place), ("end", block)."""
    found = []
    for number, (_, steps, ending) in enumerate(graph[2]):
        for index, step in enumerate(steps):
            found += [(mark, ("step", number, index)) for mark in step[2]]
        if ending[0] == "to":
            found += [(mark, ("handed", number, ending[1], at)) for at, mark in enumerate(ending[2])]
        else:
            found += [(mark, ("end", number)) for mark in reads_of_ending(ending)]
    return found


def worked(operation, one, other):
    if operation in ("div", "rem") and other == 0:
        return None
    return {
        "add": lambda: (one + other) % 65536, "sub": lambda: (one - other) % 65536, "mul": lambda: one * other % 65536,
        "div": lambda: one // other, "rem": lambda: one % other, "less": lambda: int(one < other),
        "same": lambda: int(one == other)}[operation]()


OPERATIONS = ("add", "sub", "mul", "div", "rem", "less", "same")


def number_of(graph, mark):
    step = step_of(graph, mark)
    return step[3] if step is not None and step[1] == "number" else None


def is_safe(graph, step):
    if step[1] in ("div", "rem"):
        return bool(number_of(graph, step[2][1]))
    return step[1] in ("number", "copy", "add", "sub", "mul", "less", "same")


def is_due(graph, deed):
    return {"number": number_due, "same": same_due, "drop": drop_due, "straight": straight_due, "join": join_due,
            "ahead": ahead_due}[deed[0]](graph, *deed[1:])


def number_due(graph, mark, word):
    step = step_of(graph, mark)
    if step is None or step[1] not in OPERATIONS:
        return False
    words = [number_of(graph, one) for one in step[2]]
    return None not in words and worked(step[1], *words) == word


def same_due(graph, mark, other):
    marks = marks_of(graph)
    if mark == other or mark not in marks or other not in marks or mark not in [one for one, _ in readings(graph)]:
        return False
    step, twin, place = step_of(graph, mark), step_of(graph, other), making(graph, mark)
    if step is None:
        handed = [graph[2][how[1]][2][2][how[3]] for _, how in readings(graph)
                  if how[0] == "handed" and how[2] == place[0] and graph[2][place[0]][0][how[3]] == mark]
        return place[0] != 0 and set(handed) <= {mark, other}
    if step[1] == "copy":
        return step[2] == (other,)
    if twin is None or step[1] != twin[1] or step[1] not in OPERATIONS + ("number",) or step[2] != twin[2]:
        return False
    if step[1] == "number" and step[3] != twin[3]:
        return False
    return strictly_ahead(graph, making(graph, other), place)


def drop_due(graph, marks):
    if len(marks) == 0 or tuple(sorted(set(marks))) != marks:
        return False
    for mark in marks:
        place = making(graph, mark)
        if place is None or place == (0, -1) or (place[1] >= 0 and not is_safe(graph, step_of(graph, mark))):
            return False
    for mark, how in readings(graph):
        if mark in marks:
            if how[0] == "end":
                return False
            made = graph[2][how[1]][1][how[2]][0] if how[0] == "step" else (graph[2][how[2]][0][how[3]],)
            if not set(made) & set(marks):
                return False
    return True


def straight_due(graph, block):
    ending = graph[2][block][2] if block < len(graph[2]) else ("give",)
    return ending[0] == "by" and number_of(graph, ending[1]) is not None


def join_due(graph, block):
    ending = graph[2][block][2] if block < len(graph[2]) else ("give",)
    return ending[0] == "to" and [ending[1] in named(one[2]) for one in graph[2]].count(True) == 1


def ahead_due(graph, mark, block):
    step, place = step_of(graph, mark), making(graph, mark)
    if step is None or block >= len(graph[2]) or not is_safe(graph, step):
        return False
    if place[0] == block or not dominates(graph, block, place[0]):
        return False
    return all(dominates(graph, making(graph, one)[0], block) for one in step[2])


def renamed(graph, names):
    new = lambda marks: tuple(names.get(mark, mark) for mark in marks)
    blocks = []
    for takes, steps, ending in graph[2]:
        steps = tuple((makes, verb, new(reads), note) for makes, verb, reads, note in steps)
        if ending[0] == "to":
            ending = ("to", ending[1], new(ending[2]))
        elif ending[0] == "by":
            ending = ("by",) + new(ending[1:2]) + ending[2:]
        else:
            ending = ("give", new(ending[1]))
        blocks.append((takes, steps, ending))
    return graph[:2] + (tuple(blocks),)


def with_kept_blocks(graph, kept):
    blocks = []
    for block in kept:
        takes, steps, ending = graph[2][block]
        if ending[0] == "to":
            ending = ("to", kept.index(ending[1]), ending[2])
        elif ending[0] == "by":
            ending = ending[:2] + (kept.index(ending[2]), kept.index(ending[3]))
        blocks.append((takes, steps, ending))
    return graph[:2] + (tuple(blocks),)


def replaced_block(graph, number, block):
    return graph[:2] + (graph[2][:number] + (block,) + graph[2][number + 1:],)


def done(graph, deed):
    if not is_due(graph, deed):
        raise AssertionError(("not due", deed))
    if deed[0] == "number":
        block, index = making(graph, deed[1])
        takes, steps, ending = graph[2][block]
        step = ((deed[1],), "number", (), deed[2])
        return replaced_block(graph, block, (takes, steps[:index] + (step,) + steps[index + 1:], ending))
    if deed[0] == "same":
        return renamed(graph, {deed[1]: deed[2]})
    if deed[0] == "drop":
        return without(graph, deed[1])
    if deed[0] == "ahead":
        step, (block, index) = step_of(graph, deed[1]), making(graph, deed[1])
        takes, steps, ending = graph[2][block]
        graph = replaced_block(graph, block, (takes, steps[:index] + steps[index + 1:], ending))
        takes, steps, ending = graph[2][deed[2]]
        return replaced_block(graph, deed[2], (takes, steps + (step,), ending))
    takes, steps, ending = graph[2][deed[1]]
    if deed[0] == "straight":
        target = ending[2] if number_of(graph, ending[1]) else ending[3]
        graph = replaced_block(graph, deed[1], (takes, steps, ("to", target, ())))
        return with_kept_blocks(graph, sorted(reached(graph)))
    after = graph[2][ending[1]]
    graph = replaced_block(graph, deed[1], (takes, steps + after[1], after[2]))
    graph = renamed(graph, dict(zip(after[0], ending[2])))
    return with_kept_blocks(graph, [number for number in range(len(graph[2])) if number != ending[1]])


def without(graph, marks):
    blocks = []
    for takes, steps, ending in graph[2]:
        if ending[0] == "to":
            target = graph[2][ending[1]][0]
            ending = ("to", ending[1], tuple(one for mark, one in zip(target, ending[2]) if mark not in marks))
        steps = tuple(step for step in steps if not set(step[0]) & set(marks))
        blocks.append((tuple(mark for mark in takes if mark not in marks), steps, ending))
    return graph[:2] + (tuple(blocks),)


def all_done(graph, deeds):
    for deed in deeds:
        graph = done(graph, deed)
    return graph


def due_folds(graph):
    marks = marks_of(graph)
    found = [("same", one, other) for one in marks for other in marks if same_due(graph, one, other)]
    for mark in marks:
        step = step_of(graph, mark)
        if step is not None and step[1] in OPERATIONS:
            words = [number_of(graph, one) for one in step[2]]
            if None not in words and worked(step[1], *words) is not None:
                found.append(("number", mark, worked(step[1], *words)))
    return tuple(sorted(found))


def folded(graph, pick):
    """By deeds that pick chooses."""
    while True:
        due = due_folds(graph)
        if not due:
            return graph
        graph = done(graph, pick(due))


def spare_marks(graph):
    """The union of all sets that are due, by trying each."""
    marks = [mark for mark in marks_of(graph) if not made_otherwise(graph, mark)]
    whole = set()
    for many in range(1, len(marks) + 1):
        for some in combinations(marks, many):
            if drop_due(graph, some):
                whole |= set(some)
    return tuple(sorted(whole))


def made_otherwise(graph, mark):
    place = making(graph, mark)
    return place == (0, -1) or (place[1] >= 0 and not is_safe(graph, step_of(graph, mark)))


def loops_of(graph):
    found = []
    for head in range(len(graph[2])):
        tails = [block for block in range(len(graph[2])) if graph[2][block][2][:2] == ("to", head)
                 and dominates(graph, head, block)]
        if tails:
            inside = {head} | set(tails)
            for block in range(len(graph[2])):
                if any(tail != head and comes_to(graph, block, tail, head) for tail in tails):
                    inside.add(block)
            found.append((head, tuple(sorted(inside))))
    return tuple(found)


def comes_to(graph, block, goal, without_block):
    met = set()
    pending = [block]
    while pending:
        one = pending.pop()
        if one == without_block or one in met:
            continue
        met.add(one)
        pending += named(graph[2][one][2])
    return goal in met


def straightened(graph):
    for word, due in (("straight", straight_due), ("join", join_due)):
        while True:
            blocks = [block for block in range(len(graph[2])) if due(graph, block)]
            if not blocks:
                break
            graph = done(graph, (word, blocks[0]))
    return graph


def lifted(graph):
    while True:
        deed = first_ahead(graph)
        if deed is None:
            return graph
        graph = done(graph, deed)


def first_ahead(graph):
    for head, blocks in loops_of(graph):
        for block in blocks:
            for step in graph[2][block][1]:
                for mark in step[0]:
                    deed = ("ahead", mark, nearest_dominator(graph, head))
                    if is_due(graph, deed):
                        return deed
    return None


def run_settled(graph, args, most):
    """The outcome of a graph without calls."""
    words = {}
    told = []
    beats = 0
    block, handed = 0, args
    while True:
        takes, steps, ending = graph[2][block]
        words.update(zip(takes, handed))
        for makes, verb, reads, note in steps:
            if verb == "beat":
                if beats == most:
                    return (tuple(told), ("on",), beats)
                beats += 1
            elif verb == "tell":
                told.append(words[reads[0]])
            elif verb == "number":
                words[makes[0]] = note
            elif verb == "copy":
                words[makes[0]] = words[reads[0]]
            else:
                word = worked(verb, words[reads[0]], words[reads[1]])
                if word is None:
                    return (tuple(told), ("fault", "nought", graph[0], note), beats)
                words[makes[0]] = word
        if ending[0] == "give":
            return (tuple(told), ("gave", tuple(words[mark] for mark in ending[1])), beats)
        if ending[0] == "to":
            block, handed = ending[1], tuple(words[mark] for mark in ending[2])
        else:
            block, handed = (ending[2] if words[ending[1]] else ending[3]), ()


def stand_at_entry(graph, stands, block):
    takes = graph[2][block][0]
    if block == 0:
        return list(takes)
    former = stands[(nearest_dominator(graph, block), len(graph[2][nearest_dominator(graph, block)][1]))]
    stand = [mark if mark in awaited(graph, block, 0) and mark not in takes else None for mark in former]
    for mark in takes:
        put_lowest(stand, mark)
    return stand


def put_lowest(stand, mark):
    place = stand.index(None) if None in stand else len(stand)
    stand[place:place + 1] = [mark]


def stands_of(graph):
    stands = {}
    order = sorted(range(len(graph[2])), key=lambda block: sum(
        dominates(graph, one, block) for one in range(len(graph[2]))))
    for block in order:
        stand = stand_at_entry(graph, stands, block)
        stands[(block, 0)] = trimmed(stand)
        for index, step in enumerate(graph[2][block][1]):
            if step[1] == "call":
                stand = stand_behind_call(stand, across(graph, block, index), step[0])
            else:
                here = alive(graph, block, index + 1)
                stand = [mark if mark in here else None for mark in stand]
                for mark in step[0]:
                    put_lowest(stand, mark)
            stands[(block, index + 1)] = trimmed(stand)
    return tuple(tuple(stands[(block, index)] for index in range(len(graph[2][block][1]) + 1))
                 for block in range(len(graph[2])))


def stand_behind_call(stand, kept, makes):
    many = len(kept)
    new = [None] * many
    for place in range(min(many, len(stand))):
        if stand[place] in kept:
            new[place] = stand[place]
    for mark in stand[many:]:
        if mark in kept:
            new[new.index(None)] = mark
    return new + list(makes)


def trimmed(stand):
    stand = list(stand)
    while stand and stand[-1] is None:
        stand.pop()
    return tuple(stand)
