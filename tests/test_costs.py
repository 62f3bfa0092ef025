"""Points 15 and 16: what a told run brings in, and the cheapest tree."""

import copy
import itertools
import random
import unittest

from helpers import ARGUMENT, ONE, all_trees, counting_down, program_of, sized
from overlayhall.costs import cheapest, cost
from overlayhall.errors import BadProgram, BadRoom, BadTrace, BadTree, TooMany
from overlayhall.plain import traced
from overlayhall.rooms import run_in
from overlayhall.trees import wanted
from reference import plain_cost, some_programs

ALONE = (((0,),), (-1,))
TOGETHER = (((0, 1, 2),), (-1,))
APART = (((0,), (1,), (2,)), (-1, -1, -1))
RISING = (((0,), (1,), (2,)), (-1, 0, 1))
FALLING = (((0,), (1,), (2,)), (1, 2, -1))
ON_ZERO = (((0,), (1,), (2,)), (-1, 0, 0))
PAIR_AND_TWO = (((0, 1), (2,)), (-1, -1))

THREE = sized(3, 2, 4)

BAD_PROGRAM = ((1, ARGUMENT), (9, ARGUMENT))
BAD_TREE = (((0,), (1,), (2,)), (-1, 2, 1))
BAD_TRACES = ([], [-1], [3], [0, 1, 2, 3], [0, -1, 0], [8], [100], [0] * 30 + [3])


def by_all_trees(program, room, trace):
    """What cheapest must tell, by a look at each tree."""
    found = [
        (plain_cost(program, tree, trace), tree) for tree in all_trees(len(program)) if wanted(program, tree) <= room
    ]
    return sorted(found)[0] if found else None


class CostTest(unittest.TestCase):
    def test_point_15_a_trace_of_one_function(self):
        self.assertIs(cost(THREE, APART, [0]).__class__, int)
        self.assertEqual([cost(THREE, APART, [function]) for function in range(3)], [3, 2, 4])
        self.assertEqual([cost(THREE, TOGETHER, [function]) for function in range(3)], [9, 9, 9])
        self.assertEqual([cost(THREE, RISING, [function]) for function in range(3)], [3, 5, 9])
        self.assertEqual([cost(THREE, FALLING, [function]) for function in range(3)], [9, 6, 4])
        self.assertEqual(cost(sized(8), ALONE, [0]), 8)

    def test_point_15_a_function_twice_running(self):
        for tree in (TOGETHER, APART, RISING, FALLING, ON_ZERO):
            for function in range(3):
                once = cost(THREE, tree, [function])
                self.assertEqual(cost(THREE, tree, [function] * 2), once)
                self.assertEqual(cost(THREE, tree, [function] * 10), once)

    def test_point_15_parts_that_share_cells_in_turn(self):
        self.assertEqual(cost(THREE, APART, [0, 1, 0, 1, 0]), 3 + 2 + 3 + 2 + 3)
        self.assertEqual(cost(THREE, APART, [2, 0, 1, 2]), 4 + 3 + 2 + 4)
        self.assertEqual(cost(THREE, ON_ZERO, [0, 1, 2, 1, 0, 2]), 3 + 2 + 4 + 2 + 4)
        self.assertEqual(cost(THREE, PAIR_AND_TWO, [0, 1, 2, 1, 0, 2]), 5 + 4 + 5 + 4)
        self.assertEqual(cost(THREE, RISING, [0, 1, 2, 1, 0, 2]), 9)

    def test_point_15_a_part_that_is_laid_over_in_part(self):
        # 2 lies over 0 and the first cell of 1, so that both are brought in again.
        program = sized(3, 2, 4)
        tree = (((0,), (1,), (2,)), (-1, 0, -1))
        self.assertEqual(cost(program, tree, [1, 2, 1]), 5 + 4 + 5)
        self.assertEqual(cost(program, tree, [1, 2, 0]), 5 + 4 + 3)
        # Over 0 alone: what stands on it is there still.
        program = sized(3, 2, 1)
        self.assertEqual(cost(program, tree, [1, 2, 1]), 5 + 1 + 3)

    def test_point_15_eight_functions_of_eight_cells(self):
        program = sized(*[8] * 8)
        row = (tuple((f,) for f in range(8)), tuple(range(-1, 7)))
        self.assertEqual(cost(program, row, list(range(8)) * 3), 64)
        apart = (tuple((f,) for f in range(8)), (-1,) * 8)
        self.assertEqual(cost(program, apart, list(range(8)) * 3), 192)

    def test_point_15_traces_longer_than_any_that_is_told(self):
        self.assertEqual(cost(THREE, APART, [0, 1] * 1000), 5000)

    def test_point_15_of_traced_it_is_what_run_in_brings_in(self):
        program = (
            (3, ("call", 1, ARGUMENT)),
            (2, counting_down(1, ("call", 2, ARGUMENT))),
            (4, ("say", ARGUMENT)),
        )
        self.assertEqual(cost(program, APART, traced(program, 2)), 3 + 2 + 4 + 2 + 3)
        for functions in (1, 3, 4):
            trees = all_trees(functions)
            for program in some_programs(150 + functions, 12, functions, 30):
                for number in (0, 3):
                    row = traced(program, number)
                    for tree in trees[:40]:
                        self.assertEqual(cost(program, tree, row), run_in(program, tree, 64, number)[2])

    def test_point_15_any_traces(self):
        chance = random.Random(154)
        for tree in all_trees(4):
            program = sized(*[chance.randint(1, 8) for _ in range(4)])
            trace = [chance.randrange(4) for _ in range(20)]
            self.assertEqual(cost(program, tree, trace), plain_cost(program, tree, trace), (program, tree, trace))

    def test_point_15_what_is_no_trace(self):
        for trace in BAD_TRACES:
            with self.assertRaises(BadTrace, msg=str(trace)):
                cost(THREE, APART, trace)

    def test_refused_in_the_order_in_which_they_are_handed_in(self):
        for tree in (BAD_TREE, (((0, 1),), (-1,))):
            for trace in ([], [0]):
                with self.assertRaises(BadProgram) as caught:
                    cost(BAD_PROGRAM, tree, trace)
                self.assertEqual(caught.exception.function, 1)
        for trace in ([], [3], [0]):
            with self.assertRaises(BadTree):
                cost(THREE, BAD_TREE, trace)


class CheapestTest(unittest.TestCase):
    def test_point_16_the_kinds_of_values(self):
        told = cheapest(THREE, 9, [0, 1])
        self.assertEqual((told.__class__, len(told)), (tuple, 2))
        self.assertEqual((told[0].__class__, told[1].__class__), (int, tuple))
        parts, stands = told[1]
        self.assertEqual((parts.__class__, stands.__class__), (tuple, tuple))
        self.assertTrue(all(part.__class__ is tuple for part in parts))

    def test_point_16_one_function(self):
        for size in range(1, 9):
            for room in range(1, 11):
                told = (size, ALONE) if size <= room else None
                self.assertEqual(cheapest(sized(size), room, [0, 0]), told)

    def test_point_16_two_functions(self):
        program = sized(3, 2)
        # Both together want 5 cells; with fewer they lie over one another.
        self.assertEqual(cheapest(program, 4, [0, 1, 0]), (8, (((0,), (1,)), (-1, -1))))
        self.assertEqual(cheapest(program, 5, [0, 1, 0]), (5, (((0,), (1,)), (-1, 0))))
        self.assertEqual(cheapest(program, 64, [0, 1, 0]), (5, (((0,), (1,)), (-1, 0))))
        # What isn't looked at is best left out.
        self.assertEqual(cheapest(program, 64, [1, 1]), (2, (((0,), (1,)), (-1, -1))))
        self.assertEqual(cheapest(program, 64, [0]), (3, (((0,), (1,)), (-1, -1))))

    def test_point_16_three_functions_by_hand(self):
        program = sized(3, 3, 1)
        self.assertEqual(cheapest(program, 7, [0, 1, 2, 0, 1, 2]), (7, (((0,), (1,), (2,)), (-1, 0, 1))))
        # 2 is laid over 1 at last, which comes no more; over either of them else, and 3 cells are brought in again.
        self.assertEqual(cheapest(program, 6, [0, 1, 0, 1, 2, 0]), (7, (((0,), (1,), (2,)), (-1, 0, 0))))
        self.assertEqual(cheapest(program, 6, [0, 1, 0, 2, 1, 0]), (10, (((0,), (1,), (2,)), (-1, 0, -1))))
        # 2 is under both, which lie over one another.
        self.assertEqual(cheapest(program, 4, [0, 2, 0, 2, 1, 2]), (7, (((0,), (1,), (2,)), (2, 2, -1))))
        self.assertEqual(cheapest(program, 3, [0, 1, 0, 2]), (10, (((0,), (1,), (2,)), (-1, -1, -1))))

    def test_point_16_rooms_about_the_greatest_function(self):
        for program in (sized(3, 2), sized(1, 8, 1), sized(2, 2, 5, 3), sized(1, 2, 3, 4, 5)):
            greatest = max(size for size, _ in program)
            trace = list(range(len(program)))
            for room in range(1, greatest):
                self.assertIsNone(cheapest(program, room, trace))
            self.assertIsNone(cheapest(program, greatest - 1, [0]))
            self.assertEqual(cheapest(program, greatest, trace), by_all_trees(program, greatest, trace))

    def test_point_16_rooms_for_all(self):
        for program in (sized(3, 2), sized(3, 2, 4), sized(1, 2, 3, 4)):
            everything = sum(size for size, _ in program)
            functions = len(program)
            trace = list(range(functions)) * 3
            told = cheapest(program, everything, trace)
            self.assertEqual(told, (everything, (tuple((f,) for f in range(functions)), tuple(range(-1, functions - 1)))))
            self.assertEqual(cheapest(program, 64, trace), told)
            self.assertGreater(cheapest(program, everything - 1, trace)[0], everything)

    def test_point_16_the_first_of_trees_of_the_same_cost(self):
        program = sized(1, 1, 1)
        # 0 and 1 have to be beside one another; of the trees with cost 2 the first has three parts and 2 at cell 0.
        self.assertEqual(cheapest(program, 3, [0, 1, 0, 1]), (2, (((0,), (1,), (2,)), (-1, 0, -1))))
        # One function for which all trees with cost 1 leave out the others.
        self.assertEqual(cheapest(program, 3, [2]), (1, (((0,), (1,), (2,)), (-1, -1, -1))))
        # All three beside one another: six chains, three times two with a pair, and one part.
        found = [tree for tree in all_trees(3) if cost(program, tree, [0, 1, 2] * 3) == 3]
        self.assertEqual(len(found), 13)
        self.assertEqual(cheapest(program, 3, [0, 1, 2] * 3)[1], sorted(found)[0])
        self.assertEqual(sorted(found)[0], (((0,), (1,), (2,)), (-1, 0, 1)))

    def test_point_16_a_tree_in_which_a_function_lies_with_others(self):
        # Together they cost no less than in a row, and (0,) comes ahead of (0, 1): no part has two functions.
        for program in some_programs(160, 10, 3, 20):
            trace = traced(program, 1)[:24]
            self.assertEqual(cheapest(program, 24, trace)[1][0], ((0,), (1,), (2,)))

    def test_point_16_every_room_and_trace_of_small_programs(self):
        for sizes in ((1,), (1, 1), (2, 1), (1, 2)):
            program = sized(*sizes)
            for many in range(1, 5):
                for trace in itertools.product(range(len(sizes)), repeat=many):
                    for room in range(1, 5):
                        self.assertEqual(
                            cheapest(program, room, list(trace)), by_all_trees(program, room, list(trace))
                        )

    def test_point_16_some_programs_of_three_and_four_functions(self):
        chance = random.Random(161)
        for functions, many in ((3, 60), (4, 12)):
            for _ in range(many):
                program = sized(*[chance.randint(1, 8) for _ in range(functions)])
                room = chance.randint(6, 24)
                trace = [chance.randrange(functions) for _ in range(chance.randint(1, 24))]
                self.assertEqual(
                    cheapest(program, room, trace), by_all_trees(program, room, trace), (program, room, trace)
                )

    def test_point_16_five_functions(self):
        for sizes, room in (((3, 1, 4, 1, 5), 9), ((8, 7, 6, 5, 4), 20)):
            trace = [0, 1, 2, 1, 0, 3, 4, 3, 0, 1, 2, 1, 0, 3, 4, 4, 3, 0, 2, 3, 0, 1, 0, 4]
            self.assertEqual(len(trace), 24)
            program = sized(*sizes)
            self.assertEqual(cheapest(program, room, trace), by_all_trees(program, room, trace))
        self.assertEqual(len(all_trees(5)), 2992)

    def test_point_16_what_a_run_would_bring_in(self):
        program = (
            (3, ("call", 1, ARGUMENT)),
            (2, counting_down(1, ("call", 2, ARGUMENT))),
            (4, ("say", ARGUMENT)),
        )
        row = traced(program, 2)
        for room in range(4, 10):
            least, tree = cheapest(program, room, row)
            self.assertLessEqual(wanted(program, tree), room)
            self.assertEqual(run_in(program, tree, room, 2)[2], least)
            for other in all_trees(3):
                if wanted(program, other) <= room:
                    self.assertGreaterEqual(run_in(program, other, room, 2)[2], least)

    def test_point_16_a_trace_of_more_than_24_functions_is_no_error(self):
        trace = [0, 1, 2, 1] * 7
        self.assertEqual(cheapest(THREE, 7, trace), by_all_trees(THREE, 7, trace))

    def test_point_16_more_than_five_functions(self):
        for functions in (6, 7, 8):
            for room in (64, 0, 65, -1):
                for trace in ([0], [], [9]):
                    with self.assertRaises(TooMany):
                        cheapest(sized(*[1] * functions), room, trace)
        self.assertEqual(cheapest(sized(1, 1, 1, 1, 1), 64, [0])[0], 1)

    def test_point_16_rooms_that_are_none(self):
        for room in (0, 65, -1, 100):
            for trace in ([0], [], [3], [-1]):
                with self.assertRaises(BadRoom):
                    cheapest(THREE, room, trace)
        self.assertIsNone(cheapest(THREE, 1, [0]))
        self.assertEqual(cheapest(THREE, 64, [0])[0], 3)

    def test_point_16_what_is_no_trace(self):
        for room in (1, 4, 64):
            for trace in BAD_TRACES:
                with self.assertRaises(BadTrace, msg=str(trace)):
                    cheapest(THREE, room, trace)

    def test_a_program_that_is_none_is_refused_first(self):
        for program, first in ((BAD_PROGRAM, 1), ((), 0), (sized(*[1] * 9), 8), (sized(*[1] * 5, 9), 5)):
            for room in (64, 0):
                with self.assertRaises(BadProgram) as caught:
                    cheapest(program, room, [])
                self.assertEqual(caught.exception.function, first)


class HeadTest(unittest.TestCase):
    def test_point_1_nothing_handed_in_is_changed_or_kept(self):
        trace = [0, 1, 0, 2]
        handed = copy.deepcopy((THREE, APART, trace))
        first = (cost(THREE, APART, trace), cheapest(THREE, 9, trace))
        self.assertEqual((THREE, APART, trace), handed)
        trace.clear()
        self.assertEqual((cost(THREE, APART, [0, 1, 0, 2]), cheapest(THREE, 9, [0, 1, 0, 2])), first)

    def test_point_1_the_same_is_told_again(self):
        program = program_of(ONE, ARGUMENT)
        for _ in range(2):
            self.assertEqual(cost(program, (((0, 1),), (-1,)), [1]), 2)
            self.assertEqual(cheapest(program, 1, [1, 0]), (2, (((0,), (1,)), (-1, -1))))
            self.assertIsNone(cheapest(sized(2, 1), 1, [1]))

    def test_point_1_what_is_refused_changes_nothing(self):
        trace = [0, 3]
        for _ in range(2):
            with self.assertRaises(BadTrace):
                cost(THREE, APART, trace)
            with self.assertRaises(BadTrace):
                cheapest(THREE, 9, trace)
        self.assertEqual(trace, [0, 3])
        self.assertEqual(cost(THREE, APART, [0]), 3)


if __name__ == "__main__":
    unittest.main()
