"""What a told run brings in, and the tree by which that is least."""

from overlayhall.errors import BadTrace, TooMany
from overlayhall.halls import MOST_ROOM, Hall, check_room
from overlayhall.programs import check_program
from overlayhall.trees import check_tree, end_of, trees_of
from overlayhall.wholes import between

MOST_TRIED = 5


def cost(program, tree, trace):
    """How many cells are brought in if each function of a trace is looked at in turn."""
    check_tree(program, tree)
    check_trace(program, trace)
    return brought_by(program, tree, trace)


def cheapest(program, room, trace):
    """The least cost of the trees that a room can hold, and the first of these trees; None, if it can hold none."""
    check_program(program)
    if len(program) > MOST_TRIED:
        raise TooMany(f"more than {MOST_TRIED} functions: {len(program)}")
    check_room(room)
    check_trace(program, trace)
    held = [tree for tree in trees_of(len(program)) if end_of(program, tree) <= room]
    plainest = bare(program)
    return min([(brought_by(plainest, tree, trace), tree) for tree in held], default=None)


def check_trace(program, trace):
    """Refuses what is no trace of functions of a program."""
    if len(trace) == 0 or not all([between(function, 0, len(program) - 1) for function in trace]):
        raise BadTrace("no trace of functions that there are")


def bare(program):
    """A program of the same sizes, with the plainest bodies."""
    # Only sizes tell what is brought in, and each hall judges its program anew, which is soonest done of these.
    return tuple([(size, ("argument",)) for size, _ in program])


def brought_by(program, tree, trace):
    """How many cells a hall brings in that looks at each function of a trace in turn."""
    # Any room that holds the tree brings in the same, and the greatest holds every tree.
    hall = Hall(program, tree, MOST_ROOM)
    for function in trace:
        hall.look(function)
    return hall.brought()
