"""Point 1: nothing is changed or kept, the same is told again, what is handed in first is refused first."""

import copy
import unittest

from helpers import ARGUMENT, ONE, num, program_of, sized, way
from overlayhall.errors import BadFunction, BadNumber, BadProgram, BadTree, HallError
from overlayhall.plain import run, traced
from overlayhall.trees import places, wanted, way_down

PROGRAM = program_of(("then", ("say", ARGUMENT), ("call", 1, way(1))), ("then", ("say", num(2)), ARGUMENT))
SIZED = sized(2, 3)
TREE = (((0,), (1,)), (-1, 0))

BAD_PROGRAM = program_of(ONE, ("num", 100))
BAD_TREE = (((0,), (1,)), (1, 0))


def changed(told):
    """Changes a list in whatever way its owner likes."""
    told.append("more")
    told[0] = "other"


class HeadTest(unittest.TestCase):
    def test_point_1_the_same_is_told_again(self):
        for asked in (
            lambda: run(PROGRAM, 7),
            lambda: traced(PROGRAM, 7),
            lambda: places(SIZED, TREE),
            lambda: wanted(SIZED, TREE),
            lambda: way_down(SIZED, TREE, 1),
        ):
            self.assertEqual(asked(), asked())

    def test_point_1_what_is_told_may_be_changed(self):
        changed(run(PROGRAM, 7)[1])
        self.assertEqual(run(PROGRAM, 7), (("way", 1), [7, 2]))
        for asked, told in (
            (lambda: traced(PROGRAM, 7), [0, 1, 0]),
            (lambda: places(SIZED, TREE), [0, 2]),
            (lambda: way_down(SIZED, TREE, 1), [0, 1]),
        ):
            changed(asked())
            self.assertEqual(asked(), told)

    def test_point_1_nothing_handed_in_is_changed(self):
        handed = copy.deepcopy((PROGRAM, SIZED, TREE))
        run(PROGRAM, 7)
        traced(PROGRAM, 7)
        places(SIZED, TREE)
        wanted(SIZED, TREE)
        way_down(SIZED, TREE, 1)
        self.assertEqual((PROGRAM, SIZED, TREE), handed)

    def test_point_1_what_is_refused_changes_nothing(self):
        for asked in (
            lambda: run(PROGRAM, 1000),
            lambda: run(BAD_PROGRAM, 7),
            lambda: traced(PROGRAM, -1),
            lambda: places(SIZED, BAD_TREE),
            lambda: way_down(SIZED, TREE, 2),
        ):
            for _ in range(2):
                with self.assertRaises(HallError):
                    asked()
        self.assertEqual(run(PROGRAM, 7), (("way", 1), [7, 2]))
        self.assertEqual(traced(PROGRAM, 7), [0, 1, 0])
        self.assertEqual(way_down(SIZED, TREE, 1), [0, 1])

    def test_a_program_is_refused_ahead_of_a_number(self):
        for asked in (run, traced):
            with self.assertRaises(BadProgram) as caught:
                asked(BAD_PROGRAM, 1000)
            self.assertEqual(caught.exception.function, 1)
            with self.assertRaises(BadNumber):
                asked(PROGRAM, 1000)

    def test_a_program_is_refused_ahead_of_a_tree(self):
        for asked in (places, wanted):
            with self.assertRaises(BadProgram) as caught:
                asked(BAD_PROGRAM, BAD_TREE)
            self.assertEqual(caught.exception.function, 1)
            with self.assertRaises(BadTree):
                asked(SIZED, BAD_TREE)

    def test_a_program_and_a_tree_are_refused_ahead_of_a_function(self):
        with self.assertRaises(BadProgram):
            way_down(BAD_PROGRAM, BAD_TREE, 2)
        with self.assertRaises(BadProgram):
            way_down(BAD_PROGRAM, TREE, 2)
        with self.assertRaises(BadTree):
            way_down(SIZED, BAD_TREE, 2)
        with self.assertRaises(BadFunction):
            way_down(SIZED, TREE, 2)


if __name__ == "__main__":
    unittest.main()
