"""Calls and returns that need no look, by a paper that holds."""

from overlayhall.errors import NotShown
from overlayhall.papers import entries_by, holds
from overlayhall.trees import check_tree, way_of


def shorts(program, tree, paper):
    """The places that need no look ahead, and those that need none when they are gone back from."""
    check_tree(program, tree)
    if not holds(program, paper):
        raise NotShown("the paper doesn't hold")
    entries = entries_by(program, paper)
    ways = [way_of(tree, function) for function in range(len(program))]
    asked = [(function, word, entered) for function, calls in enumerate(entries) for word, entered in calls]
    ahead = [(function, word) for function, word, entered in asked if all_there(ways, function, entered)]
    back = [
        (function, word)
        for function, word, entered in asked
        if none_over(ways, function, reached_by(entries, entered))
    ]
    return (ahead, back)


def all_there(ways, function, entered):
    """Whether all of these are there wherever the function is."""
    return all([lies_on(ways, function, called) for called in entered])


def none_over(ways, function, reached):
    """Whether none of these is brought in over the function's way down."""
    return all([lies_on(ways, function, other) or lies_on(ways, other, function) for other in reached])


def lies_on(ways, function, other):
    """Whether the part of the other one is on the function's way down."""
    return ways[other][-1] in ways[function]


def reached_by(entries, entered):
    """The functions entered, those that may be entered by them, and so on."""
    reached = []
    waiting = list(entered)
    while len(waiting) > 0:
        function = waiting.pop()
        if function not in reached:
            reached.append(function)
            for _, called in entries[function]:
                waiting.extend(called)
    return reached
