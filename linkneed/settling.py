"""Loose graphs settled: each mark made once."""

from linkneed.graphparts import renamed_ending, renamed_marks
from linkneed.orders import dominators, forward_order
from linkneed.placings import least_placing


def settled(loose):
    """The settled graph of a loose one."""
    joins = least_placing(loose)
    takes, makes = _new_marks(loose, joins)
    nearest = dominators(loose)
    rows = {}
    at_ends = {}
    for block in forward_order(loose):
        names = {}
        if block != 0:
            names = dict(at_ends[nearest[block]])
        names.update(dict(zip(_taken(loose, joins, block), takes[block])))
        rows[block] = _renamed_steps(loose[2][block][1], makes[block], names)
        at_ends[block] = names
    blocks = []
    for number, block in enumerate(loose[2]):
        ending = _settled_ending(block[2], joins, at_ends[number])
        blocks.append((takes[number], rows[number], ending))
    return (loose[0], loose[1], tuple(blocks))


def _taken(loose, joins, block):
    # What the block takes, by the marks of the loose graph.
    if block == 0:
        return loose[2][0][0]
    return joins[block]


def _new_marks(loose, joins):
    # The pair of the new marks that the blocks take, and that their steps make.
    many = 0
    takes = []
    makes = []
    for number, block in enumerate(loose[2]):
        length = len(_taken(loose, joins, number))
        takes.append(tuple(range(many, many + length)))
        many += length
        made = []
        for step in block[1]:
            made.append(tuple(range(many, many + len(step[0]))))
            many += len(step[0])
        makes.append(made)
    return (takes, makes)


def _renamed_steps(steps, makes, names):
    # Changes names along with the makings, so that it has the last ones at the end.
    renamed = []
    for step, made in zip(steps, makes):
        renamed.append((made, step[1], renamed_marks(step[2], names), step[3]))
        names.update(dict(zip(step[0], made)))
    return tuple(renamed)


def _settled_ending(ending, joins, names):
    if ending[0] == "to":
        return ("to", ending[1], tuple([names[mark] for mark in joins[ending[1]]]))
    return renamed_ending(ending, names)
