"""Programs for the tests, put together from small bodies, trees and papers."""

import itertools

ARGUMENT = ("argument",)
ONE = ("num", 1)

# What may be, in a paper.
NONE = (False, ())
NUMBER = (True, ())


def num(n):
    return ("num", n)


def way(f):
    return ("way", f)


def program_of(*bodies):
    """A program of these bodies, each function of one cell."""
    return tuple((1, body) for body in bodies)


def sized(*sizes):
    """A program of functions of these sizes, with plain bodies."""
    return tuple((size, ARGUMENT) for size in sizes)


def nested(others):
    """A body whose innermost word is within so many others."""
    body = num(1)
    for _ in range(others):
        body = ("say", body)
    return body


def row_of(bodies):
    """A body that does these in turn, nested as little as may be."""
    if len(bodies) == 1:
        return bodies[0]
    half = len(bodies) // 2
    return ("then", row_of(bodies[:half]), row_of(bodies[half:]))


def body_of(words):
    """A body of just so many words."""
    if words == 1:
        return num(0)
    if words == 2:
        return ("say", num(0))
    half = (words - 1) // 2
    return ("plus", body_of(half), body_of(words - 1 - half))


def counting_down(function, last):
    """A body that calls its own function with one less, and does the last one at 0."""
    return ("if", ARGUMENT, ("call", function, ("less", ARGUMENT, ONE)), last)


def flat_calls(leaf, count):
    return [("call", leaf, num(0))] * count


def all_parts(functions):
    """All ways to put the functions into parts, as the document orders them."""
    if functions == 0:
        return [()]
    last = functions - 1
    found = []
    for parts in all_parts(last):
        found.append(parts + ((last,),))
        for at, part in enumerate(parts):
            found.append(parts[:at] + (part + (last,),) + parts[at + 1:])
    return found


def has_ring(stands):
    for part in range(len(stands)):
        met = []
        while part != -1 and part not in met:
            met.append(part)
            part = stands[part]
        if part != -1:
            return True
    return False


def all_trees(functions):
    return [
        (parts, stands)
        for parts in all_parts(functions)
        for stands in itertools.product(range(-1, len(parts)), repeat=len(parts))
        if not has_ring(stands)
    ]


def ways(*functions):
    return (False, functions)


def all_worths(functions):
    return [
        (numbers, found)
        for numbers in (False, True)
        for many in range(functions + 1)
        for found in itertools.combinations(range(functions), many)
    ]


def all_papers(functions):
    sheets = list(itertools.product(all_worths(functions), repeat=2))
    return list(itertools.product(sheets, repeat=functions))


def full_paper(functions):
    everything = (True, tuple(range(functions)))
    return ((everything, everything),) * functions
