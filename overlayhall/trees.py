"""Trees: parts of a program that stand on one another, or share their cells."""

from overlayhall.errors import BadTree
from overlayhall.programs import check_function, check_program
from overlayhall.wholes import between

NO_PART = -1


def places(program, tree):
    """For each function its first cell."""
    check_tree(program, tree)
    return firsts_of(program, tree)


def wanted(program, tree):
    """How many cells the tree wants."""
    check_tree(program, tree)
    return end_of(program, tree)


def way_down(program, tree, function):
    """The parts on which a function's part lies, from the undermost on, and that part itself."""
    check_tree(program, tree)
    check_function(function, len(program))
    return way_of(tree, function)


def check_tree(program, tree):
    """Refuses what is no program, then what is no tree of it."""
    check_program(program)
    if len(tree) != 2 or not parts_fit(tree[0], len(program)):
        raise BadTree("no parts that hold each function once")
    if not stands_fit(tree[1], len(tree[0])):
        raise BadTree("no stands that lead each part down to cell 0")


def parts_fit(parts, functions):
    """Whether these are parts of so many functions."""
    if not isinstance(parts, tuple) or not all([part_fits(part, functions) for part in parts]):
        return False
    held = [function for part in parts for function in part]
    return rises([part[0] for part in parts]) and sorted(held) == list(range(functions))


def part_fits(part, functions):
    """Whether this is a rising tuple of one or more of so many functions."""
    if not isinstance(part, tuple) or len(part) == 0:
        return False
    return all([between(function, 0, functions - 1) for function in part]) and rises(part)


def rises(row):
    """Whether each number of a row is above the one ahead of it."""
    return all([low < high for low, high in zip(row, row[1:])])


def stands_fit(stands, parts):
    """Whether this tells for each of so many parts on which it stands, in no ring."""
    if not isinstance(stands, tuple) or len(stands) != parts:
        return False
    if not all([between(stand, NO_PART, parts - 1) for stand in stands]):
        return False
    return all([has_end(stands, part) for part in range(parts)])


def has_end(stands, part):
    """Whether the way down from a part comes to an end."""
    under = part
    # A way with an end meets each part once at most, so as many steps are enough.
    for _ in range(len(stands)):
        if under != NO_PART:
            under = stands[under]
    return under == NO_PART


def parts_below(stands, part):
    """The parts on which a part stands, from the undermost on."""
    below = []
    under = stands[part]
    while under != NO_PART:
        below.append(under)
        under = stands[under]
    return below[::-1]


def size_of(program, part):
    """How many cells the functions of a part have together."""
    return sum([program[function][0] for function in part])


def begins(program, tree):
    """For each part the cell at which it begins: where that ends on which it stands."""
    parts, stands = tree
    sizes = [size_of(program, part) for part in parts]
    return [sum([sizes[under] for under in parts_below(stands, part)]) for part in range(len(parts))]


def firsts_of(program, tree):
    """For each function the cell at which it begins in its part."""
    firsts = [0] * len(program)
    for part, begin in zip(tree[0], begins(program, tree)):
        cell = begin
        for function in part:
            firsts[function] = cell
            cell += program[function][0]
    return firsts


def end_of(program, tree):
    """The cell behind the farthest part."""
    return max([begin + size_of(program, part) for part, begin in zip(tree[0], begins(program, tree))])


def way_of(tree, function):
    """The numbers of the parts on a function's way down, from the undermost on."""
    parts, stands = tree
    own = [number for number, part in enumerate(parts) if function in part]
    return parts_below(stands, own[0]) + own


def trees_of(functions):
    """All trees of a program of so many functions."""
    stands = [stands_of(parts) for parts in range(functions + 1)]
    return [(parts, stand) for parts in partitions(functions) for stand in stands[len(parts)]]


def stands_of(parts):
    """All that may tell for each of so many parts on which it stands."""
    rows = [()]
    for _ in range(parts):
        rows = [row + (stand,) for row in rows for stand in range(NO_PART, parts)]
    return [row for row in rows if stands_fit(row, parts)]


def partitions(functions):
    """All parts in which so many functions may be laid."""
    found = [()]
    for function in range(functions):
        found = [more for parts in found for more in with_function(parts, function)]
    return found


def with_function(parts, function):
    """All that these parts may become by a function that is greater than all in them."""
    joined = [parts[:at] + (part + (function,),) + parts[at + 1:] for at, part in enumerate(parts)]
    return joined + [parts + ((function,),)]
