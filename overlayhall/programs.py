"""Programs: which there may be, and the words of their bodies."""

from overlayhall.errors import BadFunction, BadProgram
from overlayhall.wholes import between
from overlayhall.words import ARMS, GIVEN, arms_of, words_of

MOST_FUNCTIONS = 8
MOST_CELLS = 8
MOST_WORDS = 40
MOST_AROUND = 6
GREATEST_WRITTEN = 99


def check_program(program):
    """Refuses what is no program, with the first function that can't be."""
    if len(program) == 0:
        raise BadProgram(0)
    for number, function in enumerate(program):
        if number >= MOST_FUNCTIONS or not function_fits(function, len(program)):
            raise BadProgram(number)


def check_function(function, functions):
    """Refuses what is no function of so many."""
    if not between(function, 0, functions - 1):
        raise BadFunction(f"no function {function}")


def function_fits(function, functions):
    """Whether this can be one of so many functions."""
    if not isinstance(function, tuple) or len(function) != 2:
        return False
    size, body = function
    if not between(size, 1, MOST_CELLS) or not word_fits(body, functions, 0):
        return False
    return len(words_of(body)) <= MOST_WORDS


def word_fits(word, functions, around):
    """Whether this can be a word within so many others, and all within it can be, too."""
    if around > MOST_AROUND or not isinstance(word, tuple) or len(word) == 0:
        return False
    name = word[0]
    if not isinstance(name, str) or name not in ARMS:
        return False
    if name not in GIVEN:
        ahead = 1
    elif len(word) > 1 and given_fits(GIVEN[name], word[1], functions):
        ahead = 2
    else:
        return False
    if len(word) != ahead + ARMS[name]:
        return False
    return all([word_fits(arm, functions, around + 1) for arm in arms_of(word)])


def given_fits(kind, given, functions):
    """Whether this can stand in a word where a number of this kind is wanted."""
    if kind == "function":
        return between(given, 0, functions - 1)
    return between(given, 0, GREATEST_WRITTEN)


def numbered(program):
    """For each function the words of its body, as words_of tells them."""
    return [words_of(body) for _, body in program]
