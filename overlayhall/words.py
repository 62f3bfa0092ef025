"""The words that bodies are made of, and their numbers within a body."""

# How many bodies are the arms of each word: they are the last that stands in it.
ARMS = {
    "num": 0,
    "argument": 0,
    "way": 0,
    "plus": 2,
    "less": 2,
    "times": 2,
    "if": 3,
    "then": 2,
    "say": 1,
    "call": 1,
    "through": 2,
}

# What stands between some words and their arms.
GIVEN = {"num": "number", "way": "function", "call": "function"}

# The words by which functions are entered.
CALLS = ("call", "through")


def given_of(word):
    """The number that stands in a word ahead of its arms, or None."""
    return word[1] if word[0] in GIVEN else None


def arms_of(word):
    """The bodies that are a word's arms, in turn."""
    return word[len(word) - ARMS[word[0]]:]


def words_of(body):
    """The words of a body in the order of their numbers, each as (name, given, arms).

    The arms are the numbers of the words at which they begin.
    """
    rows = []
    add_word(rows, body)
    return rows


def add_word(rows, word):
    """Puts a word, and all within it, behind the rows; tells its number."""
    number = len(rows)
    # A word is numbered ahead of its arms, but the numbers of these are known only behind them.
    rows.append(None)
    arms = []
    for arm in arms_of(word):
        arms.append(add_word(rows, arm))
    rows[number] = (word[0], given_of(word), tuple(arms))
    return number
