"""The document's words done as plainly as may be, to compare what the program tells with.

Nothing here asks the program, except where the parts of a tree begin.
"""

import random

from overlayhall.trees import places, way_down

QUIET = ("plus", "less", "times", "if", "then", "say")
NAMES = QUIET + ("call", "through") * 2


class Ended(Exception):
    def __init__(self, told):
        self.told = told


def arms(word):
    return [part for part in word[1:] if isinstance(part, tuple)]


def words(body):
    """All words of a body, in the order of their numbers."""
    return [body] + [word for arm in arms(body) for word in words(arm)]


def called_places(program):
    """The places of all calls and throughs."""
    return [
        (function, number)
        for function, (_, body) in enumerate(program)
        for number, word in enumerate(words(body))
        if word[0] in ("call", "through")
    ]


class Plain:
    """A plain run: told, said, and events.

    An event tells ("enter" or "back", place, who goes on, how much was said until then), place None for function 0
    at first. Also came and tells: what came to each function, and what it told.
    """

    def __init__(self, program, number):
        self.program = program
        self.said = []
        self.events = [("enter", None, 0, 0)]
        self.came = [(0, ("number", number))]
        self.tells = []
        self.calls = 0
        try:
            self.told = self.worth(0, 0, program[0][1], ("number", number), 0)
            self.tells.append((0, self.told))
        except Ended as ended:
            self.told = ended.told

    def worth(self, function, number, word, argument, depth):
        """The worth of a word and its number, in a call within so many."""
        name = word[0]
        begins = []
        begin = number + 1
        for arm in arms(word):
            begins.append((begin, arm))
            begin += len(words(arm))

        def arm_worth(at):
            return self.worth(function, begins[at][0], begins[at][1], argument, depth)

        if name == "num":
            return ("number", word[1])
        if name == "argument":
            return argument
        if name == "way":
            return ("way", word[1])
        if name == "if":
            return arm_worth(1 if self.wanted(arm_worth(0)) else 2)
        got = [arm_worth(at) for at in range(len(begins))]
        if name == "then":
            return got[1]
        if name == "say":
            self.said.append(self.wanted(got[0]))
            return got[0]
        if name == "call":
            return self.call(function, number, word[1], got[0], depth)
        if name == "through":
            if got[0][0] != "way":
                raise Ended(("fault", "kind"))
            return self.call(function, number, got[0][1], got[1], depth)
        left, right = self.wanted(got[0]), self.wanted(got[1])
        if name == "plus":
            return ("number", (left + right) % 1000)
        if name == "less":
            return ("number", (left - right) % 1000)
        return ("number", (left * right) % 1000)

    def wanted(self, worth):
        if worth[0] != "number":
            raise Ended(("fault", "kind"))
        return worth[1]

    def call(self, function, number, called, argument, depth):
        if depth >= 12:
            raise Ended(("fault", "deep"))
        if self.calls >= 200:
            raise Ended(("fault", "long"))
        self.calls += 1
        self.came.append((called, argument))
        self.events.append(("enter", (function, number), called, len(self.said)))
        told = self.worth(called, 0, self.program[called][1], argument, depth + 1)
        self.tells.append((called, told))
        self.events.append(("back", (function, number), function, len(self.said)))
        return told


class Floor:
    """The cells of a room, as a dict."""

    def __init__(self, program, tree):
        self.ways = [way_down(program, tree, function) for function in range(len(program))]
        firsts = places(program, tree)
        self.parts = [
            {firsts[f] + n: (f, n) for f in part for n in range(program[f][0])} for part in tree[0]
        ]
        self.cells = {}
        self.brought = 0

    def has(self, part):
        return all(self.cells.get(cell) == content for cell, content in self.parts[part].items())

    def there(self, function):
        return all(self.has(part) for part in self.ways[function])

    def look(self, function):
        told = []
        for part in self.ways[function]:
            if not self.has(part):
                self.cells.update(self.parts[part])
                self.brought += len(self.parts[part])
                told.append(part)
        return told

    def row(self, room):
        return [self.cells.get(cell) for cell in range(room)]


def in_room(program, tree, ahead, back, number):
    """What run_with must tell."""
    plain = Plain(program, number)
    floor = Floor(program, tree)
    looks = 0
    for kind, place, function, said in plain.events:
        if place in (ahead if kind == "enter" else back):
            if not floor.there(function):
                return (("lost", function), plain.said[:said], floor.brought, looks)
        else:
            floor.look(function)
            looks += 1
    return (plain.told, plain.said, floor.brought, looks)


def some_body(chance, own, functions, most_words, around=0):
    """Any body of a function, of no more than so many words, within so many others."""
    if around == 6 or most_words < 4 or chance.random() < 0.15:
        # Few ways, since most words want numbers.
        name = chance.choice(("num", "argument") * 4 + ("way",))
        return {"num": ("num", chance.choice((0, 1, 2, 99))), "way": ("way", chance.randrange(functions))}.get(
            name, ("argument",)
        )
    # Who can call none but itself and earlier ones seldom calls, so that some runs come to an end.
    name = chance.choice(NAMES if own + 1 < functions or chance.random() < 0.2 else QUIET)
    many = {"if": 3, "say": 1, "call": 1}.get(name, 2)
    share = (most_words - 1) // many
    inner = tuple(some_body(chance, own, functions, share, around + 1) for _ in range(many))
    if name == "call":
        return (name, some_function(chance, own, functions)) + inner
    if name == "through" and chance.random() < 0.9:
        inner = (("way", some_function(chance, own, functions)), inner[1])
    return (name,) + inner


def some_function(chance, own, functions):
    """A function to call: most often a later one."""
    if own + 1 < functions and chance.random() < 0.85:
        return chance.randrange(own + 1, functions)
    return chance.randrange(functions)


def some_programs(seed, many, functions, most_words):
    """So many programs, the same each time."""
    chance = random.Random(seed)
    return [
        tuple((chance.randint(1, 8), some_body(chance, own, functions, most_words)) for own in range(functions))
        for _ in range(many)
    ]


def some_lists(seed, program, many):
    """So many pairs of lists of places of a program's calls and throughs."""
    chance = random.Random(seed)
    found = called_places(program)
    pairs = []
    for _ in range(many):
        # Few places, too, since a run that leaves out many is over early.
        share = chance.choice((0.2, 0.5, 0.9))
        pairs.append(tuple([place for place in found if chance.random() < share] for _ in range(2)))
    return pairs


def may_be(paper, function, word):
    """What a word of a function may be by a paper: a set of "number" and of functions to which ways lead."""
    name, inner = word[0], arms(word)
    if name == "argument":
        return opened(paper[function][0])
    if name == "way":
        return {word[1]}
    if name == "if":
        return may_be(paper, function, inner[1]) | may_be(paper, function, inner[2])
    if name == "then":
        return may_be(paper, function, inner[1])
    if name in ("call", "through"):
        return set().union(*(opened(paper[called][1]) for called in may_enter(paper, function, word)))
    return {"number"}


def opened(worths):
    numbers, ways = worths
    return set(ways) | ({"number"} if numbers else set())


def may_enter(paper, function, word):
    """The functions that a call or a through may enter by a paper."""
    if word[0] == "call":
        return {word[1]}
    return may_be(paper, function, arms(word)[0]) - {"number"}


def paper_holds(program, paper):
    """Whether a paper holds, by the words of the document."""
    if not paper[0][0][0]:
        return False
    for function, (_, body) in enumerate(program):
        if opened(paper[function][0]):
            if not may_be(paper, function, body) <= opened(paper[function][1]):
                return False
            for word in words(body):
                if word[0] in ("call", "through"):
                    argument = may_be(paper, function, arms(word)[-1])
                    if any(not argument <= opened(paper[called][0]) for called in may_enter(paper, function, word)):
                        return False
    return True


def closed(program, paper):
    """The least paper that holds and tells all that this one tells."""
    told = [[opened(worths) for worths in sheet] for sheet in paper]
    told[0][0].add("number")
    before = None
    while told != before:
        before = [[set(found) for found in sheet] for sheet in told]
        now = folded(told)
        for function, (_, body) in enumerate(program):
            if told[function][0]:
                told[function][1] |= may_be(now, function, body)
                for word in words(body):
                    if word[0] in ("call", "through"):
                        for called in may_enter(now, function, word):
                            told[called][0] |= may_be(now, function, arms(word)[-1])
    return folded(told)


def folded(told):
    """The paper of rows of sets, as opened tells them."""
    return tuple(
        tuple(("number" in found, tuple(sorted(found - {"number"}))) for found in sheet) for sheet in told
    )


def some_papers(seed, program, many):
    """So many papers of a program that hold: the least, and such as tell more."""
    chance = random.Random(seed)
    things = ["number"] + list(range(len(program)))
    papers = [closed(program, (((False, ()),) * 2,) * len(program))]
    for more in range(1, many):
        told = [[opened(worths) for worths in sheet] for sheet in papers[0]]
        for _ in range(more):
            chance.choice(chance.choice(told)).add(chance.choice(things))
        papers.append(closed(program, folded(told)))
    return papers


def plain_shorts(program, tree, paper):
    """What shorts must tell of a paper that holds."""
    downs = [way_down(program, tree, function) for function in range(len(program))]
    # Only in functions to which anything may come, which tells both the places and by whom others may be entered.
    entered = {
        (function, number): may_enter(paper, function, words(program[function][1])[number])
        for function, number in called_places(program)
        if opened(paper[function][0])
    }
    ahead, back = [], []
    for place in sorted(entered):
        down = downs[place[0]]
        if all(downs[called][-1] in down for called in entered[place]):
            ahead.append(place)
        reached = set(entered[place])
        for _ in program:
            reached |= {more for other in entered if other[0] in reached for more in entered[other]}
        if all(downs[other][-1] in down or down[-1] in downs[other] for other in reached):
            back.append(place)
    return (ahead, back)


def plain_cost(program, tree, trace):
    """What cost must tell."""
    floor = Floor(program, tree)
    for function in trace:
        floor.look(function)
    return floor.brought
