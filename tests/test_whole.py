"""The whole program: what its parts tell of the same programs and trees belongs together."""

import copy
import importlib
import inspect
import random
import unittest

from helpers import all_trees
from overlayhall.costs import cheapest, cost
from overlayhall.errors import HallError
from overlayhall.halls import Hall
from overlayhall.notes import read, written
from overlayhall.papers import holds, least_paper
from overlayhall.plain import run, traced
from overlayhall.rooms import run_in, run_with
from overlayhall.shorts import shorts
from overlayhall.trees import places, wanted, way_down
from reference import called_places, some_programs

NUMBERS = (0, 2, 999)

INTERFACE = {
    "plain": {"run": ["program", "number"], "traced": ["program", "number"]},
    "trees": {
        "places": ["program", "tree"], "wanted": ["program", "tree"], "way_down": ["program", "tree", "function"],
    },
    "rooms": {
        "run_in": ["program", "tree", "room", "number"],
        "run_with": ["program", "tree", "room", "ahead", "back", "number"],
    },
    "papers": {"holds": ["program", "paper"], "least_paper": ["program"]},
    "shorts": {"shorts": ["program", "tree", "paper"]},
    "costs": {"cost": ["program", "tree", "trace"], "cheapest": ["program", "room", "trace"]},
    "notes": {"written": ["program"], "read": ["text"]},
}
HALL = {"look": ["function"], "there": ["function"], "cells": [], "brought": []}


def asked(program, tree, number):
    """What all of the interface tells of a program, a tree and a number."""
    room = wanted(program, tree)
    paper = least_paper(program)
    ahead, back = shorts(program, tree, paper)
    row = traced(program, number)
    hall = Hall(program, tree, room)
    looked = [hall.look(function) for function in row[:50]]
    return {
        "run": run(program, number),
        "traced": row,
        "places": places(program, tree),
        "wanted": room,
        "ways": [way_down(program, tree, function) for function in range(len(program))],
        "hall": (looked, hall.cells(), [hall.there(function) for function in range(len(program))], hall.brought()),
        "run_in": run_in(program, tree, room, number),
        "run_with": run_with(program, tree, room, ahead, back, number),
        "looks": run_with(program, tree, room, [], [], number),
        "holds": holds(program, paper),
        "paper": paper,
        "shorts": (ahead, back),
        "cost": cost(program, tree, row),
        "written": written(program),
    }


def spoil(told):
    """Changes all lists in what is told."""
    if isinstance(told, dict):
        spoil(list(told.values()))
    elif isinstance(told, (list, tuple)):
        for inner in told:
            spoil(inner)
        if isinstance(told, list):
            told.append("more")
            told[0] = "other"
            told.reverse()


class InterfaceTest(unittest.TestCase):
    def test_each_function_is_defined_in_its_file_with_its_arguments(self):
        for name, functions in INTERFACE.items():
            module = importlib.import_module("overlayhall." + name)
            for function, arguments in functions.items():
                found = getattr(module, function)
                self.assertEqual(found.__module__, module.__name__)
                self.assertEqual(list(inspect.signature(found).parameters), arguments)

    def test_the_hall_defines_its_methods_itself(self):
        self.assertEqual(Hall.__module__, "overlayhall.halls")
        self.assertEqual(list(inspect.signature(Hall).parameters), ["program", "tree", "room"])
        for method, arguments in HALL.items():
            self.assertEqual(list(inspect.signature(vars(Hall)[method]).parameters), ["self"] + arguments)


class WholeTest(unittest.TestCase):
    def test_points_5_9_14_and_15_belong_together(self):
        chance = random.Random(180)
        for functions in (1, 2, 3, 4):
            trees = all_trees(functions)
            for program in some_programs(181 + functions, 30, functions, 40):
                for number in NUMBERS:
                    tree = chance.choice(trees)
                    found = asked(program, tree, number)
                    told, said = found["run"]
                    brought = found["cost"]
                    self.assertEqual(found["run_in"], (told, said, brought))
                    self.assertEqual(found["run_with"][:3], (told, said, brought))
                    self.assertEqual(found["looks"], (told, said, brought, len(found["traced"])))
                    self.assertLessEqual(found["run_with"][3], len(found["traced"]))
                    self.assertIs(found["holds"], True)
                    for listed in found["shorts"]:
                        self.assertLessEqual(set(listed), set(called_places(program)))
                    if len(found["traced"]) <= 50:
                        self.assertEqual(found["hall"][3], brought)
                    # None costs less than the cheapest tree of the same room.
                    row = found["traced"][:24]
                    if functions <= 3:
                        self.assertLessEqual(
                            cheapest(program, found["wanted"], row)[0], cost(program, tree, row)
                        )

    def test_point_1_asked_twice_with_told_lists_changed_between(self):
        chance = random.Random(185)
        for functions in (1, 3, 5):
            trees = all_trees(functions)
            for program in some_programs(186 + functions, 15, functions, 40):
                tree = chance.choice(trees)
                number = chance.choice(NUMBERS)
                handed = copy.deepcopy((program, tree))
                first = asked(program, tree, number)
                kept = copy.deepcopy(first)
                spoil(first)
                self.assertNotEqual(first, kept)
                self.assertEqual(asked(program, tree, number), kept)
                self.assertEqual((program, tree), handed)

    def test_point_17_a_program_that_was_written_and_read_is_the_same(self):
        chance = random.Random(190)
        for program in some_programs(191, 20, 4, 40):
            tree = chance.choice(all_trees(4))
            again = read(written(program))
            self.assertEqual(asked(again, tree, 2), asked(program, tree, 2))

    def test_point_1_lists_that_are_handed_in_may_be_changed_later(self):
        for program in some_programs(192, 20, 3, 40):
            tree = (((0, 1), (2,)), (-1, 0))
            told = shorts(program, tree, least_paper(program))
            ahead, back = copy.deepcopy(told)
            row = traced(program, 2)[:24]
            first = (run_with(program, tree, 64, ahead, back, 2), cost(program, tree, row), cheapest(program, 24, row))
            for handed in (ahead, back, row):
                handed.clear()
            row = traced(program, 2)[:24]
            self.assertEqual(
                (run_with(program, tree, 64, *told, 2), cost(program, tree, row), cheapest(program, 24, row)), first
            )

    def test_point_1_what_is_refused_changes_nothing(self):
        program = some_programs(193, 1, 3, 40)[0]
        tree = (((0,), (1,), (2,)), (-1, 0, 0))
        first = asked(program, tree, 2)
        for refused in (
            lambda: run(program, -1),
            lambda: traced(program, 1000),
            lambda: places(program, (((0, 1),), (-1,))),
            lambda: way_down(program, tree, 3),
            lambda: Hall(program, tree, 0),
            lambda: run_in(program, tree, 65, 2),
            lambda: run_with(program, tree, 64, [(3, 0)], [], 2),
            lambda: holds(program, ()),
            lambda: shorts(program, tree, (((False, ()),) * 2,) * 3),
            lambda: cost(program, tree, []),
            lambda: cheapest(program, 64, [3]),
            lambda: written(program + ((9, ("argument",)),)),
            lambda: read(written(program) + "\n"),
        ):
            with self.assertRaises(HallError):
                refused()
            self.assertEqual(asked(program, tree, 2), first)


if __name__ == "__main__":
    unittest.main()
