"""Doing a program, word by word."""

from overlayhall.errors import BadNumber
from overlayhall.programs import numbered
from overlayhall.wholes import between

NUMBERS = 1000
MOST_OTHERS = 12
MOST_CALLS = 200


class Fault(Exception):
    """Ends a run: `word` tells why."""

    def __init__(self, word):
        self.word = word


def check_number(number):
    """Refuses what function 0 can't be called with."""
    if not between(number, 0, NUMBERS - 1):
        raise BadNumber(f"no number from 0 to {NUMBERS - 1}: {number}")


class Run:
    """A run of a program, and what it leaves: told, said and the row of functions that went on.

    A worth is ("number", n) or ("way", f).
    """

    def __init__(self, program):
        self.bodies = numbered(program)
        self.told = None
        self.said = []
        self.row = []
        self.calls = 0
        self.others = 0

    def begin(self, number):
        """Does function 0 with a number, to its end or to a fault."""
        try:
            self.enter(None, 0)
            self.told = self.worth(0, 0, ("number", number))
        except Fault as fault:
            self.told = ("fault", fault.word)

    def worth(self, function, word, argument):
        """The worth of the word with this number in a function's body, in a call with this argument."""
        name, given, arms = self.bodies[function][word]
        if name == "num":
            return ("number", given)
        if name == "way":
            return ("way", given)
        if name == "argument":
            return argument
        if name == "if":
            first = number_in(self.worth(function, arms[0], argument))
            return self.worth(function, arms[1] if first != 0 else arms[2], argument)
        # All arms are done ahead of any look at what they are.
        worths = [self.worth(function, arm, argument) for arm in arms]
        if name == "then":
            return worths[1]
        if name == "say":
            return self.say(worths[0])
        if name == "call":
            return self.call((function, word), given, worths[0])
        if name == "through":
            return self.call((function, word), end_of_way(worths[0]), worths[1])
        return reckoned(name, number_in(worths[0]), number_in(worths[1]))

    def say(self, worth):
        """Says a number, and tells it."""
        self.said.append(number_in(worth))
        return worth

    def call(self, place, called, argument):
        """What the called function tells of this argument, to the word at this place."""
        if self.others >= MOST_OTHERS:
            raise Fault("deep")
        if self.calls >= MOST_CALLS:
            raise Fault("long")
        self.calls += 1
        self.others += 1
        self.enter(place, called)
        told = self.worth(called, 0, argument)
        self.come_back(place)
        self.others -= 1
        return told

    def enter(self, place, called):
        """The called function goes on, by the word at this place; function 0 at first by none."""
        self.row.append(called)

    def come_back(self, place):
        """The function in which this place is goes on, with what was told to it."""
        self.row.append(place[0])


def number_in(worth):
    """The number that a worth is."""
    kind, number = worth
    if kind != "number":
        raise Fault("kind")
    return number


def end_of_way(worth):
    """The function to which a worth leads."""
    kind, function = worth
    if kind != "way":
        raise Fault("kind")
    return function


def reckoned(name, left, right):
    """The worth of plus, less or times of two numbers."""
    if name == "plus":
        number = left + right
    elif name == "less":
        number = left - right
    else:
        number = left * right
    return ("number", number % NUMBERS)
