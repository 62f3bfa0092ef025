"""Programs as texts: a row for each function, its size ahead of its body's words."""

from overlayhall.errors import BadText
from overlayhall.programs import check_program
from overlayhall.words import ARMS, GIVEN, words_of

# What may stand at a place of a row.
NUMBER = "number"
BODY = "body"
MOST_FIGURES = 2


def written(program):
    """The text of a program."""
    check_program(program)
    return "\n".join([written_row(size, body) for size, body in program])


def read(text):
    """The program of a text."""
    rows = [row.split(" ") for row in text.split("\n")]
    for number, words in enumerate(rows):
        check_row(number, words)
    program = tuple([read_row(words) for words in rows])
    check_program(program)
    return program


def written_row(size, body):
    """The row of a function."""
    words = [str(size)]
    for name, given, _ in words_of(body):
        words.append(name)
        if given is not None:
            words.append(str(given))
    return " ".join(words)


def check_row(row, words):
    """Refuses the first word of a row that can't stand there, or the end of one that lacks words."""
    # What must come still, the next last.
    lacking = [BODY, NUMBER]
    for place, word in enumerate(words):
        if len(lacking) == 0 or not may_stand(word, lacking.pop()):
            raise BadText(row, place)
        lacking.extend(asked_by(word))
    if len(lacking) > 0:
        raise BadText(row, len(words))


def may_stand(word, kind):
    """Whether a word may stand where this kind is wanted."""
    if kind == BODY:
        return word in ARMS
    # The text of a number has no needless 0: 0 itself is the only one that begins with it.
    return word.isdigit() and len(word) <= MOST_FIGURES and (word == "0" or word[0] != "0")


def asked_by(word):
    """What must come behind a word that may stand, the next last."""
    if word not in ARMS:
        return []
    given = [NUMBER] if word in GIVEN else []
    return [BODY] * ARMS[word] + given


def read_row(words):
    """The function of a row in which all words may stand."""
    # From the end on, so that all that belongs to a word is read ahead of it, the nearest last.
    done = []
    for word in words[::-1]:
        if word in ARMS:
            begin = len(done) - len(asked_by(word))
            within = done[begin:]
            del done[begin:]
            done.append((word, *within[::-1]))
        else:
            done.append(int(word))
    body, size = done
    return (size, body)
