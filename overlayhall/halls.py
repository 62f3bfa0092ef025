"""Halls: rooms in which the parts of a tree are brought in over one another."""

from overlayhall.errors import BadRoom
from overlayhall.programs import check_function
from overlayhall.trees import check_tree, end_of, firsts_of, way_of
from overlayhall.wholes import between

MOST_ROOM = 64


class Hall:
    """A room, and what of a program lies in each of its cells."""

    def __init__(self, program, tree, room):
        check_tree(program, tree)
        check_room(room)
        if room < end_of(program, tree):
            raise BadRoom(f"{room} cells are too few for the tree")
        self.ways = [way_of(tree, function) for function in range(len(program))]
        self.layouts = layouts(program, tree)
        self.lying = [None] * room
        self.moved = 0

    def look(self, function):
        """Brings in what isn't there of a function's way down, and tells the numbers of these parts."""
        check_function(function, len(self.ways))
        # The parts of one way down share no cells, so none of these is laid over another one.
        missing = [part for part in self.ways[function] if not self.has_part(part)]
        for part in missing:
            self.bring(part)
        return missing

    def there(self, function):
        """Whether all parts of a function's way down are there."""
        check_function(function, len(self.ways))
        return all([self.has_part(part) for part in self.ways[function]])

    def cells(self):
        """What lies in each cell: None, or (function, number of its cell)."""
        return list(self.lying)

    def brought(self):
        """How many cells were brought in."""
        return self.moved

    def has_part(self, part):
        """Whether all cells of a part are there."""
        return all([self.lying[cell] == content for cell, content in self.layouts[part]])

    def bring(self, part):
        """Brings in all cells of a part, over whatever lay there."""
        for cell, content in self.layouts[part]:
            self.lying[cell] = content
            self.moved += 1


def check_room(room):
    """Refuses a number of cells that no room has."""
    if not between(room, 1, MOST_ROOM):
        raise BadRoom(f"no room of 1 to {MOST_ROOM} cells: {room}")


def layouts(program, tree):
    """For each part its cells, as pairs (cell, what lies in it when the part is there)."""
    firsts = firsts_of(program, tree)
    return [
        [(firsts[function] + number, (function, number)) for function in part for number in range(program[function][0])]
        for part in tree[0]
    ]
