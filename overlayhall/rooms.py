"""Runs in a room, with all looks or without some."""

from overlayhall.errors import BadPlace
from overlayhall.halls import Hall
from overlayhall.programs import numbered
from overlayhall.runs import Run, check_number
from overlayhall.wholes import between
from overlayhall.words import CALLS


class Lost(Exception):
    """Ends a run: `function` is to go on, and isn't there."""

    def __init__(self, function):
        self.function = function


class RoomRun(Run):
    """A run in a hall, which leaves out the looks of some places, ahead of their calls and back from them."""

    def __init__(self, program, hall, ahead, back):
        Run.__init__(self, program)
        self.hall = hall
        self.ahead = {place: True for place in ahead}
        self.back = {place: True for place in back}
        self.looks = 0

    def begin(self, number):
        """Does function 0 with a number, to its end, to a fault, or until a function is lost."""
        try:
            super().begin(number)
        except Lost as lost:
            self.told = ("lost", lost.function)

    def enter(self, place, called):
        """The called function goes on, looked at if its place isn't left out."""
        super().enter(place, called)
        self.go_on(called, place in self.ahead)

    def come_back(self, place):
        """The function in which this place is goes on, looked at if the place isn't left out."""
        super().come_back(place)
        self.go_on(place[0], place in self.back)

    def go_on(self, function, left_out):
        """A function goes on behind a look, or without one, if it is there."""
        if not left_out:
            self.hall.look(function)
            self.looks += 1
        elif not self.hall.there(function):
            raise Lost(function)


def run_in(program, tree, room, number):
    """Calls function 0 with a number, in a room: (told, said, brought)."""
    done = room_run(program, tree, room, [], [], number)
    return (done.told, done.said, done.hall.brought())


def run_with(program, tree, room, ahead, back, number):
    """The same without the looks of two lists of places: (told, said, brought, looks)."""
    done = room_run(program, tree, room, ahead, back, number)
    return (done.told, done.said, done.hall.brought(), done.looks)


def room_run(program, tree, room, ahead, back, number):
    """The run in a room, without the looks of two lists of places, when it is over."""
    hall = Hall(program, tree, room)
    check_places(program, ahead)
    check_places(program, back)
    check_number(number)
    done = RoomRun(program, hall, ahead, back)
    done.begin(number)
    return done


def check_places(program, left_out):
    """Refuses places at which no call or through stands."""
    bodies = numbered(program)
    for place in left_out:
        if not calls_at(bodies, place):
            raise BadPlace(f"no call or through at {place}")


def calls_at(bodies, place):
    """Whether a call or a through stands at a place."""
    if len(place) != 2:
        return False
    function, word = place
    if not between(function, 0, len(bodies) - 1) or not between(word, 0, len(bodies[function]) - 1):
        return False
    return bodies[function][word][0] in CALLS
