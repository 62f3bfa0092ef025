"""Point 8: halls, what is looked at, what is brought in and what lies there."""

import copy
import random
import unittest

from helpers import ARGUMENT, all_trees, sized
from overlayhall.errors import BadFunction, BadProgram, BadRoom, BadTree
from overlayhall.halls import Hall
from overlayhall.trees import wanted
from reference import Floor

FOUR = sized(3, 1, 4, 2)
# Functions 1 and 3, or 2, on 0.
SHARED = (((0,), (1, 3), (2,)), (-1, 0, 0))
ALL_APART = (((0,), (1,), (2,), (3,)), (-1, -1, -1, -1))
ALL_IN_ONE = (((0, 1, 2, 3),), (-1,))
# The undermost part is the last.
DOWNWARDS = (((0,), (1,), (2,), (3,)), (1, 2, 3, -1))
WHOLE_0 = [(0, 0), (0, 1), (0, 2)]
WHOLE_2 = [(2, 0), (2, 1), (2, 2), (2, 3)]


def state(hall):
    """All that a hall of four functions tells without a change."""
    return (hall.cells(), hall.brought(), [hall.there(function) for function in range(4)])


class RoomTest(unittest.TestCase):
    def refused(self, room, tree=SHARED, program=FOUR):
        with self.assertRaises(BadRoom, msg=str(room)):
            Hall(program, tree, room)

    def test_point_8_rooms_that_there_may_be(self):
        for room in (7, 8, 63, 64):
            hall = Hall(FOUR, SHARED, room)
            self.assertEqual(len(hall.cells()), room)
            self.assertEqual(hall.look(2), [0, 2])

    def test_point_8_a_room_of_one_cell(self):
        hall = Hall(sized(1), (((0,),), (-1,)), 1)
        self.assertEqual(hall.cells(), [None])
        self.assertEqual(hall.look(0), [0])
        self.assertEqual(hall.cells(), [(0, 0)])

    def test_point_8_a_tree_that_wants_the_greatest_room(self):
        program = sized(*[8] * 8)
        tree = ((tuple(range(8)),), (-1,))
        hall = Hall(program, tree, 64)
        self.assertEqual(hall.look(7), [0])
        self.assertEqual(hall.cells(), [(function, number) for function in range(8) for number in range(8)])
        self.refused(63, tree, program)
        self.refused(65, tree, program)

    def test_point_8_no_rooms(self):
        for room in (0, -1, -64, 65, 66, 1000):
            self.refused(room)

    def test_point_8_a_room_too_small_for_the_tree(self):
        for room in (6, 5, 1):
            self.refused(room)
        for tree in all_trees(4):
            least = wanted(FOUR, tree)
            self.refused(least - 1, tree)
            self.assertEqual(len(Hall(FOUR, tree, least).cells()), least)

    def test_a_program_and_a_tree_are_refused_ahead_of_a_room(self):
        bad_program = ((1, ARGUMENT), (9, ARGUMENT))
        bad_tree = (((0,), (1, 3), (2,)), (-1, 2, 1))
        for room in (0, 1, 65):
            with self.assertRaises(BadProgram) as caught:
                Hall(bad_program, bad_tree, room)
            self.assertEqual(caught.exception.function, 1)
            with self.assertRaises(BadTree):
                Hall(FOUR, bad_tree, room)
        with self.assertRaises(BadProgram):
            Hall(bad_program, SHARED, 64)
        with self.assertRaises(BadTree):
            Hall(FOUR, bad_tree, 64)


class HallTest(unittest.TestCase):
    def test_point_8_the_kinds_of_values(self):
        hall = Hall(FOUR, SHARED, 7)
        self.assertIs(hall.look(0).__class__, list)
        self.assertIs(hall.cells().__class__, list)
        self.assertIs(hall.cells()[0].__class__, tuple)
        self.assertIs(hall.there(0), True)
        self.assertIs(hall.there(1), False)
        self.assertIs(hall.brought().__class__, int)

    def test_the_methods_are_the_class_s_own(self):
        for name in ("look", "cells", "there", "brought"):
            self.assertIn(name, vars(Hall))

    def test_point_8_at_first_nothing_is_there(self):
        for tree in (SHARED, ALL_APART, ALL_IN_ONE, DOWNWARDS):
            self.assertEqual(state(Hall(FOUR, tree, 12)), ([None] * 12, 0, [False] * 4))

    def test_point_8_looks_at_parts_that_share_cells(self):
        hall = Hall(FOUR, SHARED, 9)
        self.assertEqual(hall.look(3), [0, 1])
        ones = [(1, 0), (3, 0), (3, 1)]
        self.assertEqual(state(hall), (WHOLE_0 + ones + [None] * 3, 6, [True, True, False, True]))
        self.assertEqual(hall.look(2), [2])
        self.assertEqual(state(hall), (WHOLE_0 + WHOLE_2 + [None] * 2, 10, [True, False, True, False]))
        # The last cell of 2 is left behind where 1 and 3 end: 2 is there in part only.
        self.assertEqual(hall.look(1), [1])
        self.assertEqual(state(hall), (WHOLE_0 + ones + [(2, 3), None, None], 13, [True, True, False, True]))
        self.assertEqual(hall.look(2), [2])
        self.assertEqual(state(hall), (WHOLE_0 + WHOLE_2 + [None] * 2, 17, [True, False, True, False]))

    def test_point_8_a_second_look_brings_nothing_in(self):
        for tree in (SHARED, ALL_APART, ALL_IN_ONE, DOWNWARDS):
            for function in range(4):
                hall = Hall(FOUR, tree, 10)
                self.assertNotEqual(hall.look(function), [])
                before = state(hall)
                self.assertTrue(hall.there(function))
                for _ in range(3):
                    self.assertEqual(hall.look(function), [])
                    self.assertEqual(state(hall), before)

    def test_point_8_a_look_at_another_function_of_the_same_part(self):
        hall = Hall(FOUR, ALL_IN_ONE, 10)
        self.assertEqual(hall.look(3), [0])
        self.assertEqual(state(hall)[1:], (10, [True] * 4))
        self.assertEqual([hall.look(function) for function in range(4)], [[]] * 4)
        self.assertEqual(hall.cells(), WHOLE_0 + [(1, 0)] + WHOLE_2 + [(3, 0), (3, 1)])

    def test_point_8_looks_at_functions_all_apart(self):
        hall = Hall(FOUR, ALL_APART, 5)
        told = [hall.look(function) for function in (2, 0, 1, 3, 3, 2)]
        self.assertEqual(told, [[2], [0], [1], [3], [], [2]])
        self.assertEqual(state(hall), (WHOLE_2 + [None], 14, [False, False, True, False]))

    def test_point_8_what_a_smaller_part_leaves(self):
        hall = Hall(FOUR, ALL_APART, 4)
        hall.look(2)
        hall.look(3)
        hall.look(1)
        self.assertEqual(hall.cells(), [(1, 0), (3, 1), (2, 2), (2, 3)])
        self.assertEqual([hall.there(function) for function in range(4)], [False, True, False, False])

    def test_point_8_the_row_is_told_from_the_undermost_on(self):
        hall = Hall(FOUR, DOWNWARDS, 10)
        self.assertEqual(hall.look(2), [3, 2])
        self.assertEqual(hall.look(0), [1, 0])
        self.assertEqual(hall.cells(), [(3, 0), (3, 1)] + WHOLE_2 + [(1, 0)] + WHOLE_0)
        other = Hall(FOUR, DOWNWARDS, 10)
        self.assertEqual(other.look(0), [3, 2, 1, 0])
        self.assertEqual(other.brought(), 10)

    def test_point_8_only_what_is_missing_of_a_way_down_is_brought_in(self):
        # 1 stands on 0, and 2 on 1; 3 lies over the first cell of 1 alone.
        hall = Hall(sized(1, 2, 1, 1), (((0,), (1,), (2,), (3,)), (-1, 0, 1, 0)), 4)
        self.assertEqual(hall.look(2), [0, 1, 2])
        self.assertEqual(hall.look(3), [3])
        self.assertEqual(state(hall), ([(0, 0), (3, 0), (1, 1), (2, 0)], 5, [True, False, False, True]))
        self.assertEqual(hall.look(2), [1])
        self.assertEqual(state(hall), ([(0, 0), (1, 0), (1, 1), (2, 0)], 7, [True, True, True, False]))

    def test_point_8_a_function_whose_ground_is_gone(self):
        # 1 stands on 0, and 2 lies over 0.
        hall = Hall(sized(1, 2, 1, 1), (((0,), (1,), (2,), (3,)), (-1, 0, -1, 1)), 4)
        self.assertEqual(hall.look(3), [0, 1, 3])
        self.assertEqual(hall.look(2), [2])
        self.assertEqual(state(hall), ([(2, 0), (1, 0), (1, 1), (3, 0)], 5, [False, False, True, False]))
        self.assertEqual(hall.look(1), [0])
        self.assertEqual(state(hall), ([(0, 0), (1, 0), (1, 1), (3, 0)], 6, [True, True, False, True]))

    def test_point_8_cells_beyond_the_tree_stay_empty(self):
        hall = Hall(FOUR, SHARED, 64)
        for function in (0, 1, 2, 3, 2, 1):
            hall.look(function)
            self.assertEqual(hall.cells()[7:], [None] * 57)

    def test_point_8_sixty_looks(self):
        hall = Hall(FOUR, ALL_APART, 4)
        for _ in range(20):
            self.assertEqual([hall.look(0), hall.look(2), hall.look(3)], [[0], [2], [3]])
        self.assertEqual(hall.brought(), 180)

    def test_point_8_functions_that_there_are_not(self):
        hall = Hall(FOUR, SHARED, 8)
        hall.look(2)
        before = state(hall)
        for function in (-1, 4, 5, 8, 100):
            with self.assertRaises(BadFunction):
                hall.look(function)
            with self.assertRaises(BadFunction):
                hall.there(function)
        self.assertEqual(state(hall), before)
        self.assertEqual(hall.look(3), [1])

    def test_point_1_what_is_told_may_be_changed(self):
        hall = Hall(FOUR, SHARED, 7)
        for told in (hall.cells(), hall.look(2), hall.look(2), hall.cells()):
            before = state(hall)
            told.append("more")
            told[0] = "other"
            self.assertEqual(state(hall), before)
        self.assertEqual(hall.look(3), [1])
        self.assertEqual(hall.look(2), [2])

    def test_point_1_cells_told_ahead_of_a_look_stay(self):
        hall = Hall(FOUR, SHARED, 7)
        cells = hall.cells()
        hall.look(2)
        self.assertEqual(cells, [None] * 7)

    def test_point_1_two_halls_side_by_side(self):
        one, other = Hall(FOUR, SHARED, 7), Hall(FOUR, SHARED, 7)
        self.assertEqual(one.look(2), [0, 2])
        self.assertEqual(state(other), ([None] * 7, 0, [False] * 4))
        self.assertEqual(other.look(3), [0, 1])
        self.assertEqual(state(one), (WHOLE_0 + WHOLE_2, 7, [True, False, True, False]))
        self.assertEqual((one.brought(), other.brought()), (7, 6))

    def test_point_1_asked_again_a_hall_tells_the_same(self):
        hall = Hall(FOUR, SHARED, 7)
        hall.look(1)
        self.assertEqual(state(hall), state(hall))

    def test_point_1_nothing_handed_in_is_changed(self):
        handed = copy.deepcopy((FOUR, SHARED))
        Hall(FOUR, SHARED, 7).look(2)
        self.assertEqual((FOUR, SHARED), handed)

    def test_point_8_many_looks_in_every_tree(self):
        chance = random.Random(8)
        for program in (sized(3, 1, 2), sized(1, 1, 1), sized(2, 8, 5)):
            for tree in all_trees(3):
                room = wanted(program, tree) + chance.randrange(3)
                hall, floor = Hall(program, tree, room), Floor(program, tree)
                for function in [chance.randrange(3) for _ in range(12)]:
                    self.assertEqual(hall.look(function), floor.look(function), tree)
                    self.assertEqual(hall.cells(), floor.row(room), tree)
                    self.assertEqual(hall.brought(), floor.brought, tree)
                    self.assertEqual([hall.there(f) for f in range(3)], [floor.there(f) for f in range(3)], tree)


if __name__ == "__main__":
    unittest.main()
