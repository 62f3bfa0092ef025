"""Papers: of which worths may come to each function, and be told by it.

What may be is a pair (numbers, ways): whether a number, and ways to which functions.
"""

from overlayhall.errors import BadPaper
from overlayhall.programs import check_program, numbered
from overlayhall.trees import rises
from overlayhall.wholes import between
from overlayhall.words import CALLS

NOTHING = (False, ())
A_NUMBER = (True, ())


def holds(program, paper):
    """Whether a paper of a program holds."""
    check_paper(program, paper)
    asked = asked_by(numbered(program), paper)
    return all([among(least, given) for asks, gives in zip(asked, paper) for least, given in zip(asks, gives)])


def least_paper(program):
    """The paper that holds, and of which no less holds."""
    check_program(program)
    bodies = numbered(program)
    paper = ((NOTHING, NOTHING),) * len(program)
    asked = asked_by(bodies, paper)
    # A paper that tells more asks for no less, so this climbs, and never beyond one that holds.
    while asked != paper:
        paper = asked
        asked = asked_by(bodies, paper)
    return paper


def check_paper(program, paper):
    """Refuses what is no program, then what is no paper of it."""
    check_program(program)
    if len(paper) != len(program) or not all([sheet_fits(sheet, len(program)) for sheet in paper]):
        raise BadPaper("no paper that tells for each function what may come and be told")


def sheet_fits(sheet, functions):
    """Whether this can be what a paper tells for one of so many functions."""
    if not isinstance(sheet, tuple) or len(sheet) != 2:
        return False
    return all([worths_fit(worths, functions) for worths in sheet])


def worths_fit(worths, functions):
    """Whether this is a truth about numbers and a rising tuple of some of so many functions."""
    if not isinstance(worths, tuple) or len(worths) != 2:
        return False
    numbers, ways = worths
    if not isinstance(numbers, bool) or not isinstance(ways, tuple):
        return False
    return all([between(way, 0, functions - 1) for way in ways]) and rises(ways)


def asked_by(bodies, paper):
    """The least that a paper must tell, if all that may be which this one tells."""
    came = [NOTHING] * len(bodies)
    tells = [NOTHING] * len(bodies)
    came[0] = A_NUMBER
    for function, words in enumerate(bodies):
        # What is never entered asks for nothing.
        if paper[function][0] != NOTHING:
            worths = worths_in(words, function, paper)
            tells[function] = worths[0]
            for called, argument in handed_on(words, worths):
                came[called] = either(came[called], argument)
    return tuple(zip(came, tells))


def handed_on(words, worths):
    """What the calls and throughs of a body hand on: pairs of the function entered, and what may come to it."""
    return [(called, worths[words[word][2][-1]]) for word, entered in entries(words, worths) for called in entered]


def entries_by(program, paper):
    """For each function of a program its calls and throughs, as entries tells them: none, if nothing may come to it."""
    # What is never entered enters none, whatever its body names.
    return [
        entries(words, worths_in(words, function, paper)) if paper[function][0] != NOTHING else []
        for function, words in enumerate(numbered(program))
    ]


def entries(words, worths):
    """The calls and throughs of a body: pairs of the word's number, and the functions that it may enter."""
    return [(word, entered_by(words, word, worths)) for word, (name, _, _) in enumerate(words) if name in CALLS]


def worths_in(words, function, paper):
    """What each word of a function's body may be."""
    worths = [NOTHING] * len(words)
    # The arms of a word have greater numbers than it has itself.
    for word in reversed(range(len(words))):
        worths[word] = worth_of(words, word, worths, function, paper)
    return worths


def worth_of(words, word, worths, function, paper):
    """What the word with this number may be, by what its arms may be."""
    name, given, arms = words[word]
    if name == "argument":
        return paper[function][0]
    if name == "way":
        return (False, (given,))
    if name == "if":
        return either(worths[arms[1]], worths[arms[2]])
    if name == "then":
        return worths[arms[1]]
    if name not in CALLS:
        return A_NUMBER
    told = NOTHING
    for called in entered_by(words, word, worths):
        told = either(told, paper[called][1])
    return told


def entered_by(words, word, worths):
    """The functions that the call or through with this number may enter, rising."""
    name, given, arms = words[word]
    if name == "call":
        return [given]
    _, ways = worths[arms[0]]
    return list(ways)


def either(some, others):
    """What may be, if some may be, and others."""
    numbers, ways = some
    more_numbers, more_ways = others
    return (numbers or more_numbers, tuple(sorted(set(ways) | set(more_ways))))


def among(some, others):
    """Whether all that is some is others, too."""
    return either(some, others) == others
