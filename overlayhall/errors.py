"""What overlayhall refuses, an error class for each kind of refusal."""


class HallError(ValueError):
    """Any refusal."""


class BadProgram(HallError):
    """No program: `function` is the first of its functions that can't be."""

    def __init__(self, function):
        HallError.__init__(self, f"no program: function {function} can't be")
        self.function = function


class BadNumber(HallError):
    """No number that function 0 may be called with."""


class BadTree(HallError):
    """No tree of the program."""


class BadRoom(HallError):
    """No room that there may be, or one that is too small for the tree."""


class BadFunction(HallError):
    """No function of the program."""


class BadPaper(HallError):
    """No paper of the program."""


class NotShown(HallError):
    """A paper that doesn't hold, so that nothing can be shown by it."""


class BadPlace(HallError):
    """No place of a call or a through."""


class BadTrace(HallError):
    """No trace of functions of the program."""


class TooMany(HallError):
    """More functions than all trees can be tried for."""


class BadText(HallError):
    """No text of a program: `row` and `place` tell the first word that can't stand there."""

    def __init__(self, row, place):
        HallError.__init__(self, f"no program's text: row {row}, word {place}")
        self.row = row
        self.place = place
