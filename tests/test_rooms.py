"""Points 9 and 14: runs in a room, with all looks or without some; point 3: places of calls and throughs."""

import copy
import random
import unittest

from helpers import ARGUMENT, ONE, all_trees, counting_down, flat_calls, num, program_of, row_of, way
from overlayhall.errors import BadNumber, BadPlace, BadProgram, BadRoom, BadTree
from overlayhall.halls import Hall
from overlayhall.plain import run, traced
from overlayhall.rooms import run_in, run_with
from overlayhall.trees import wanted
from reference import Plain, called_places, in_room, some_lists, some_programs

# Counts down in 1 and says in 2: places (0, 0), (1, 2), (1, 3).
THREE = (
    (3, ("call", 1, ARGUMENT)),
    (2, ("if", ARGUMENT, ("call", 1, ("call", 2, ("less", ARGUMENT, ONE))), ARGUMENT)),
    (4, ("say", ARGUMENT)),
)
ONE_PART = (((0, 1, 2),), (-1,))
APART = (((0,), (1,), (2,)), (-1, -1, -1))
CHAIN = (((0,), (1,), (2,)), (-1, 0, 1))
# 1 and 2 lie over one another, on 0.
ON_ZERO = (((0,), (1,), (2,)), (-1, 0, 0))

TWO_APART = (((0,), (1,)), (-1, -1))
TWO_CHAIN = (((0,), (1,)), (-1, 0))

BAD_PROGRAM = ((1, ARGUMENT), (1, ("num", 100)), (1, ARGUMENT))
BAD_TREE = (((0,), (1,), (2,)), (-1, 2, 1))


def pair_of(size, other_size, body, other_body):
    """A program of two functions."""
    return ((size, body), (other_size, other_body))


class RunInTest(unittest.TestCase):
    def test_point_9_the_kinds_of_values(self):
        told = run_in(THREE, APART, 4, 2)
        self.assertIs(told.__class__, tuple)
        self.assertEqual(len(told), 3)
        self.assertIs(told[0].__class__, tuple)
        self.assertIs(told[1].__class__, list)
        self.assertIs(told[2].__class__, int)

    def test_point_9_without_calls_function_0_is_brought_in(self):
        program = ((5, ("plus", ARGUMENT, ONE)), (2, ARGUMENT))
        self.assertEqual(run_in(program, TWO_APART, 5, 7), (("number", 8), [], 5))
        self.assertEqual(run_in(program, (((0, 1),), (-1,)), 7, 7), (("number", 8), [], 7))
        self.assertEqual(run_in(program, (((0,), (1,)), (1, -1)), 7, 7), (("number", 8), [], 7))
        self.assertEqual(run_in(program, TWO_CHAIN, 7, 7), (("number", 8), [], 5))

    def test_point_9_back_into_a_caller_that_was_laid_over(self):
        program = pair_of(3, 2, ("plus", ("call", 1, ARGUMENT), ONE), ("say", ARGUMENT))
        # 3 for function 0, 2 for function 1 over it, 3 for function 0 again.
        self.assertEqual(run_in(program, TWO_APART, 3, 5), (("number", 6), [5], 8))
        self.assertEqual(run_in(program, TWO_CHAIN, 5, 5), (("number", 6), [5], 5))
        self.assertEqual(run_in(program, (((0, 1),), (-1,)), 5, 5), (("number", 6), [5], 5))

    def test_point_9_by_hand_for_three_functions(self):
        told = (("number", 0), [1, 0])
        # Entered and gone back to are 0, 1, 2, 1, 1, 2, 1, 1, 1, 1, 0.
        self.assertEqual(traced(THREE, 2), [0, 1, 2, 1, 1, 2, 1, 1, 1, 1, 0])
        self.assertEqual(run_in(THREE, APART, 4, 2), told + (3 + 2 + 4 + 2 + 4 + 2 + 3,))
        self.assertEqual(run_in(THREE, ON_ZERO, 7, 2), told + (3 + 2 + 4 + 2 + 4 + 2,))
        self.assertEqual(run_in(THREE, CHAIN, 9, 2), told + (9,))
        self.assertEqual(run_in(THREE, ONE_PART, 9, 2), told + (9,))

    def test_point_9_a_through_is_looked_at_and_back(self):
        program = pair_of(3, 2, ("plus", ("through", way(1), ARGUMENT), ONE), ("say", ARGUMENT))
        self.assertEqual(run_in(program, TWO_APART, 3, 5), (("number", 6), [5], 8))

    def test_point_9_calls_among_arms(self):
        # 0 is gone back to between the two calls.
        program = pair_of(3, 2, ("plus", ("call", 1, ARGUMENT), ("call", 1, ONE)), ("say", ARGUMENT))
        self.assertEqual(run_in(program, TWO_APART, 3, 5), (("number", 6), [5, 1], 13))
        # An argument is done ahead of the look at who is called with it.
        program = pair_of(3, 2, ("call", 1, ("call", 1, ARGUMENT)), ("say", ARGUMENT))
        self.assertEqual(run_in(program, TWO_APART, 3, 5), (("number", 5), [5, 5], 13))

    def test_point_9_what_is_not_called_is_not_brought_in(self):
        program = pair_of(3, 2, ("if", ARGUMENT, ("call", 1, ARGUMENT), ONE), ARGUMENT)
        self.assertEqual(run_in(program, TWO_APART, 3, 0), (("number", 1), [], 3))
        self.assertEqual(run_in(program, TWO_APART, 3, 9), (("number", 9), [], 8))

    def test_point_9_a_greater_room_is_no_other(self):
        for room in (4, 5, 63, 64):
            self.assertEqual(run_in(THREE, APART, room, 2), run_in(THREE, APART, 4, 2))

    def test_point_9_a_way_is_told(self):
        program = pair_of(3, 2, ("call", 1, way(1)), ARGUMENT)
        self.assertEqual(run_in(program, TWO_APART, 3, 0), (("way", 1), [], 8))

    def test_point_9_kind(self):
        program = pair_of(3, 2, ("plus", ("call", 1, ARGUMENT), way(1)), ("say", ARGUMENT))
        self.assertEqual(run_in(program, TWO_APART, 3, 5), (("fault", "kind"), [5], 8))
        # In function 1: none goes back.
        program = pair_of(3, 2, ("call", 1, ARGUMENT), ("then", ("say", ARGUMENT), ("say", way(0))))
        self.assertEqual(run_in(program, TWO_APART, 3, 5), (("fault", "kind"), [5], 5))
        # Through a number nobody is looked at.
        program = pair_of(3, 2, ("through", ONE, ("say", ARGUMENT)), ARGUMENT)
        self.assertEqual(run_in(program, TWO_APART, 3, 5), (("fault", "kind"), [5], 3))

    def test_point_9_deep(self):
        program = (
            (3, ("call", 1, ARGUMENT)),
            (2, counting_down(1, ("call", 2, ("say", ARGUMENT)))),
            (4, ("say", num(7))),
        )
        # The twelfth call is of 2, and all go back to 1.
        self.assertEqual(run_in(program, APART, 4, 10), (("number", 7), [0, 7], 3 + 2 + 4 + 2 + 3))
        # The thirteenth would be: it isn't looked at, and none goes back.
        self.assertEqual(run_in(program, APART, 4, 11), (("fault", "deep"), [0], 3 + 2))
        self.assertEqual(run_with(program, APART, 4, [], [], 11), (("fault", "deep"), [0], 5, 13))

    def test_point_9_long(self):
        hundred = row_of(flat_calls(2, 9))
        bodies = [ARGUMENT, row_of(flat_calls(1, 10)), hundred]
        # 2 does ten calls besides its own, 3 does 99.
        last = ("call", 4, ("say", num(8)))
        full = program_of(row_of(flat_calls(3, 2) + [last]), *bodies, ("say", num(9)))
        over = program_of(row_of(flat_calls(3, 2) + flat_calls(1, 1) + [last]), *bodies, ("say", num(9)))
        apart = (((0, 1, 2, 3), (4,)), (-1, -1))
        self.assertEqual(run(full, 0), (("fault", "long"), [8]))
        self.assertEqual(run_in(full, apart, 4, 0), (("fault", "long"), [8], 4))
        self.assertEqual(run_with(full, apart, 4, [], [], 0), (("fault", "long"), [8], 4, 401))
        self.assertEqual(run_in(over, apart, 4, 0), (("fault", "long"), [], 4))
        less = program_of(row_of(flat_calls(3, 1) + flat_calls(2, 9) + [last]), *bodies, ("say", num(9)))
        # The two hundredth is done, and looked at: 100 + 99 + 1.
        self.assertEqual(run_with(less, apart, 4, [], [], 0), (("number", 9), [8, 9], 4 + 1 + 4, 401))

    def test_point_9_the_same_as_run_in_every_tree(self):
        for program in some_programs(9, 30, 3, 25):
            for number in (0, 1, 12):
                plain = run(program, number)
                for tree in all_trees(3):
                    told, said, brought = run_in(program, tree, wanted(program, tree), number)
                    self.assertEqual((told, said), plain)
                    self.assertEqual(brought, in_room(program, tree, [], [], number)[2])

    def test_point_9_brought_is_that_of_looks_at_the_trace(self):
        for program in some_programs(90, 20, 3, 30):
            for tree in all_trees(3):
                hall = Hall(program, tree, 64)
                for function in traced(program, 3):
                    hall.look(function)
                self.assertEqual(run_in(program, tree, 64, 3)[2], hall.brought())

    def test_refused_in_the_order_in_which_they_are_handed_in(self):
        with self.assertRaises(BadProgram) as caught:
            run_in(BAD_PROGRAM, BAD_TREE, 0, 1000)
        self.assertEqual(caught.exception.function, 1)
        for room in (0, 3, 65):
            with self.assertRaises(BadTree):
                run_in(THREE, BAD_TREE, room, 1000)
            with self.assertRaises(BadRoom):
                run_in(THREE, APART, room, 1000)
            with self.assertRaises(BadRoom):
                run_in(THREE, APART, room, 1)
        for number in (-1, 1000):
            with self.assertRaises(BadNumber):
                run_in(THREE, APART, 4, number)
        self.assertEqual(run_in(THREE, APART, 4, 0)[0], ("number", 0))
        self.assertEqual(run_in(THREE, APART, 4, 999)[0], ("fault", "deep"))


class RunWithTest(unittest.TestCase):
    def test_point_14_the_kinds_of_values(self):
        told = run_with(THREE, APART, 4, [(0, 0)], [], 2)
        self.assertIs(told.__class__, tuple)
        self.assertEqual([value.__class__ for value in told], [tuple, list, int, int])
        self.assertIs(told[0][1].__class__, int)

    def test_point_14_nothing_left_out(self):
        self.assertEqual(run_with(THREE, APART, 4, [], [], 2), (("number", 0), [1, 0], 20, 11))
        for program in some_programs(14, 25, 3, 30):
            for tree in all_trees(3):
                told = run_with(program, tree, 64, [], [], 2)
                self.assertEqual(told[:3], run_in(program, tree, 64, 2))
                self.assertEqual(told[3], len(traced(program, 2)))

    def test_point_14_one_look_alone(self):
        self.assertEqual(run_with(program_of(ARGUMENT), (((0,),), (-1,)), 1, [], [], 2), (("number", 2), [], 1, 1))

    def test_point_14_left_out_where_nobody_is_lost(self):
        told = (("number", 0), [1, 0])
        calls = [(0, 0), (1, 2), (1, 3)]
        self.assertEqual(run_with(THREE, ONE_PART, 9, calls, calls, 2), told + (9, 1))
        self.assertEqual(run_with(THREE, ONE_PART, 9, calls, [], 2), told + (9, 6))
        self.assertEqual(run_with(THREE, ONE_PART, 9, [], calls, 2), told + (9, 6))
        # In a chain all stays, once it is there.
        self.assertEqual(run_with(THREE, CHAIN, 9, [(1, 2)], calls, 2), told + (9, 4))
        # 1 calls itself, and is there; it is there when 2 is left, only behind a look.
        self.assertEqual(run_with(THREE, APART, 4, [(1, 2)], [(1, 2)], 2), told + (20, 7))
        # 0 is under 1 and 2, so it is there when 1 has told.
        self.assertEqual(run_with(THREE, ON_ZERO, 7, [], [(0, 0), (1, 2)], 2), told + (17, 8))

    def test_point_14_a_called_one_is_lost(self):
        self.assertEqual(run_with(THREE, APART, 4, [(0, 0)], [], 2), (("lost", 1), [], 3, 1))
        self.assertEqual(run_with(THREE, APART, 4, [(1, 3)], [], 2), (("lost", 2), [], 5, 2))
        self.assertEqual(run_with(THREE, CHAIN, 9, [(1, 3)], [], 2), (("lost", 2), [], 5, 2))
        # No call is done, so nobody is lost.
        self.assertEqual(run_with(THREE, APART, 4, [(1, 3)], [], 0), (("number", 0), [], 8, 3))

    def test_point_14_a_caller_is_lost(self):
        self.assertEqual(run_with(THREE, APART, 4, [], [(0, 0)], 2), (("lost", 0), [1, 0], 17, 10))
        self.assertEqual(run_with(THREE, APART, 4, [], [(1, 3)], 2), (("lost", 1), [1], 9, 3))
        # 2, called first, has said: what was said is told.
        self.assertEqual(run_with(THREE, ON_ZERO, 7, [], [(1, 3)], 2), (("lost", 1), [1], 9, 3))

    def test_point_14_function_0_is_looked_at_always(self):
        program = pair_of(3, 2, ("call", 0, ARGUMENT), ARGUMENT)
        self.assertEqual(run_with(program, TWO_APART, 3, [(0, 0)], [(0, 0)], 1), (("fault", "deep"), [], 3, 1))

    def test_point_14_who_calls_itself_may_be_lost_when_gone_back_to(self):
        # Function 1 is called in the innermost call, so that 0 is lost there.
        program = pair_of(3, 2, counting_down(0, ("call", 1, ARGUMENT)), ("say", ARGUMENT))
        self.assertEqual(run_with(program, TWO_APART, 3, [(0, 2)], [(0, 2)], 2), (("number", 0), [0], 8, 3))
        self.assertEqual(run_with(program, TWO_APART, 3, [], [(0, 6)], 2), (("lost", 0), [0], 5, 4))

    def test_point_14_who_is_there_needs_its_way_down(self):
        # 2 stands on 0, and 1 lies over a cell of 0: 2's own part is there, but not its way down.
        program = (
            (1, ("then", ("call", 2, ONE), ("then", ("call", 1, ONE), ("call", 2, ONE)))),
            (1, ARGUMENT),
            (2, ("say", ARGUMENT)),
        )
        self.assertEqual(called_places(program), [(0, 1), (0, 4), (0, 6)])
        tree = (((0,), (1,), (2,)), (-1, -1, 0))
        self.assertEqual(run_with(program, tree, 3, [(0, 6)], [(0, 4)], 0), (("lost", 0), [1], 4, 4))
        self.assertEqual(run_with(program, tree, 3, [(0, 6)], [], 0), (("number", 1), [1, 1], 5, 6))
        deep = (
            (1, ("then", ("call", 2, ONE), ("then", ("call", 1, ONE), ARGUMENT))),
            (1, ("call", 2, ONE)),
            (2, ("say", ARGUMENT)),
        )
        # From 1 a call of 2, whose own cells are all there.
        self.assertEqual(run_with(deep, tree, 3, [(1, 0)], [], 0), (("lost", 2), [1], 4, 4))

    def test_point_14_a_part_that_is_there_in_part_is_lost(self):
        # 1 has fewer cells than 0, so that cells of 0 are left.
        program = pair_of(8, 1, ("then", ("call", 1, ONE), ARGUMENT), ARGUMENT)
        self.assertEqual(run_with(program, TWO_APART, 8, [], [(0, 1)], 0), (("lost", 0), [], 9, 2))

    def test_point_14_places_of_throughs(self):
        program = pair_of(3, 2, ("through", way(1), ("say", ARGUMENT)), ("say", ONE))
        self.assertEqual(run_with(program, TWO_APART, 3, [(0, 0)], [], 5), (("lost", 1), [5], 3, 1))
        self.assertEqual(run_with(program, TWO_APART, 3, [], [(0, 0)], 5), (("lost", 0), [5, 1], 5, 2))
        self.assertEqual(run_with(program, TWO_CHAIN, 5, [], [(0, 0)], 5), (("number", 1), [5, 1], 5, 2))
        # Through a number nobody goes on, so nobody is lost.
        program = pair_of(3, 2, ("through", ONE, ("say", ARGUMENT)), ARGUMENT)
        self.assertEqual(run_with(program, TWO_APART, 3, [(0, 0)], [(0, 0)], 5), (("fault", "kind"), [5], 3, 1))

    def test_point_14_a_fault_goes_ahead_of_a_lost_one(self):
        program = (
            (1, ("call", 1, ARGUMENT)),
            (1, counting_down(1, ("call", 2, ARGUMENT))),
            (1, ARGUMENT),
        )
        # The thirteenth call would be of 2, which isn't there: the call isn't done.
        self.assertEqual(run_with(program, APART, 1, [(1, 6)], [], 11), (("fault", "deep"), [], 2, 13))
        self.assertEqual(run_with(program, APART, 1, [(1, 6)], [], 10), (("lost", 2), [], 2, 12))

    def test_point_14_places_twice_and_in_any_order(self):
        calls = [(0, 0), (1, 2), (1, 3)]
        told = run_with(THREE, CHAIN, 9, [(1, 2)], calls, 2)
        self.assertEqual(run_with(THREE, CHAIN, 9, [(1, 2), (1, 2)], calls[::-1] + calls, 2), told)
        lost = run_with(THREE, APART, 4, [(1, 2)], [(1, 2), (0, 0)], 2)
        self.assertEqual(run_with(THREE, APART, 4, [(1, 2)] * 3, [(0, 0), (1, 2), (0, 0)], 2), lost)

    def test_point_14_each_list_is_for_its_own_looks(self):
        self.assertNotEqual(
            run_with(THREE, ON_ZERO, 7, [], [(0, 0)], 2), run_with(THREE, ON_ZERO, 7, [(0, 0)], [], 2)
        )

    def test_points_3_and_14_what_is_no_call_or_through(self):
        program = (
            (1, ("if", ("call", 1, ("say", ARGUMENT)), ("through", way(1), num(3)), ("then", ONE, ("plus", ONE, ONE)))),
            (1, ("less", ("times", ARGUMENT, ONE), num(2))),
        )
        found = called_places(program)
        self.assertEqual(found, [(0, 1), (0, 4)])
        for function in range(-1, 4):
            for number in range(-1, 14):
                place = (function, number)
                if place in found:
                    run_with(program, TWO_APART, 1, [place], [place], 0)
                else:
                    for lists in (([place], []), ([], [place]), (found + [place], found), (found, found + [place])):
                        with self.assertRaises(BadPlace, msg=str(place)):
                            run_with(program, TWO_APART, 1, *lists, 0)

    def test_points_3_and_14_places_that_there_are_not(self):
        for place in ((3, 0), (8, 0), (-1, 0), (-3, 0), (0, 2), (0, -2), (1, 9), (1, -6), (2, 100)):
            with self.assertRaises(BadPlace, msg=str(place)):
                run_with(THREE, APART, 4, [place], [], 2)
            with self.assertRaises(BadPlace, msg=str(place)):
                run_with(THREE, APART, 4, [], [place], 2)

    def test_points_3_and_14_no_place_is_counted_from_the_end(self):
        program = program_of(ARGUMENT, ("call", 0, ("call", 0, ARGUMENT)))
        for place in ((-1, 0), (-1, 1), (1, -1), (1, -2), (1, -3), (-2, 0)):
            with self.assertRaises(BadPlace, msg=str(place)):
                run_with(program, TWO_APART, 1, [place], [], 2)

    def test_points_3_and_14_what_is_no_place_at_all(self):
        for place in ((), (0,), (0, 0, 0), (1, 2, 0), (True, 2), (0, False)):
            for lists in (([place], []), ([], [place])):
                with self.assertRaises(BadPlace, msg=str(place)):
                    run_with(THREE, APART, 4, *lists, 2)

    def test_point_3_words_are_numbered_ahead_of_their_arms_in_turn(self):
        program = program_of(
            ("then", ("call", 1, ("call", 2, ARGUMENT)), ("through", ("call", 3, ONE), ("call", 4, ONE))),
            ARGUMENT,
            ARGUMENT,
            way(5),
            ARGUMENT,
            ARGUMENT,
        )
        tree = (tuple((function,) for function in range(6)), (-1, 0, 0, 0, 0, 0))
        # Each place, left out, loses the function that is called there.
        lost = {place: run_with(program, tree, 2, [place], [], 0)[0] for place in called_places(program)}
        self.assertEqual(
            lost,
            {
                (0, 1): ("lost", 1), (0, 2): ("lost", 2), (0, 4): ("lost", 5), (0, 5): ("lost", 3), (0, 7): ("lost", 4),
            },
        )

    def test_point_3_words_of_a_branch_that_is_not_done_are_numbered_too(self):
        program = program_of(
            ("if", ARGUMENT, ("call", 1, ("plus", ONE, ONE)), ("call", 2, ONE)), ARGUMENT, ARGUMENT
        )
        self.assertEqual(run_with(program, APART, 1, [(0, 6)], [], 0)[0], ("lost", 2))
        self.assertEqual(run_with(program, APART, 1, [(0, 2)], [], 0)[0], ("number", 1))
        self.assertEqual(run_with(program, APART, 1, [(0, 2)], [], 1)[0], ("lost", 1))
        self.assertEqual(run_with(program, APART, 1, [(0, 6)], [], 1)[0], ("number", 2))

    def test_point_14_any_places_left_out(self):
        chance = random.Random(140)
        lost = 0
        for program in some_programs(141, 60, 3, 30):
            for ahead, back in some_lists(142, program, 4):
                tree = chance.choice(all_trees(3))
                number = chance.choice((0, 1, 2, 5, 999))
                told = run_with(program, tree, 64, ahead, back, number)
                self.assertEqual(told, in_room(program, tree, ahead, back, number), (program, tree, ahead, back))
                lost += told[0][0] == "lost"
        self.assertGreater(lost, 20)

    def test_refused_in_the_order_in_which_they_are_handed_in(self):
        bad = [(2, 0)]
        with self.assertRaises(BadProgram) as caught:
            run_with(BAD_PROGRAM, BAD_TREE, 0, bad, bad, 1000)
        self.assertEqual(caught.exception.function, 1)
        for room in (0, 3, 65):
            with self.assertRaises(BadTree):
                run_with(THREE, BAD_TREE, room, bad, bad, 1000)
            for lists in ((bad, bad), (bad, []), ([], bad), ([], [])):
                with self.assertRaises(BadRoom):
                    run_with(THREE, APART, room, *lists, 1000)
        for lists in ((bad, bad), (bad, []), ([], bad)):
            with self.assertRaises(BadPlace):
                run_with(THREE, APART, 4, *lists, 1000)
        for number in (-1, 1000):
            with self.assertRaises(BadNumber):
                run_with(THREE, APART, 4, [(0, 0)], [(0, 0)], number)


class HeadTest(unittest.TestCase):
    def test_point_1_the_same_is_told_again(self):
        for asked in (
            lambda: run_in(THREE, APART, 4, 2),
            lambda: run_with(THREE, APART, 4, [(0, 0)], [], 2),
            lambda: run_with(THREE, CHAIN, 9, [(1, 2)], [(1, 3)], 2),
        ):
            self.assertEqual(asked(), asked())

    def test_point_1_what_is_told_may_be_changed(self):
        for asked in (run_in(THREE, APART, 4, 2), run_with(THREE, APART, 4, [], [], 2)):
            asked[1].append("more")
            asked[1][0] = "other"
        self.assertEqual(run_in(THREE, APART, 4, 2)[1], [1, 0])
        self.assertEqual(run_with(THREE, APART, 4, [], [], 2)[1], [1, 0])

    def test_point_1_nothing_handed_in_is_changed_or_kept(self):
        ahead, back = [(1, 2), (1, 2)], [(1, 3), (1, 2), (0, 0)]
        handed = copy.deepcopy((THREE, CHAIN, ahead, back))
        told = run_with(THREE, CHAIN, 9, ahead, back, 2)
        self.assertEqual((THREE, CHAIN, ahead, back), handed)
        ahead.clear()
        back.clear()
        self.assertEqual(run_with(THREE, CHAIN, 9, ahead, back, 2)[3], 11)
        self.assertEqual(told, (("number", 0), [1, 0], 9, 4))

    def test_point_1_what_is_refused_changes_nothing(self):
        ahead, back = [(1, 2)], [(1, 3), (2, 0)]
        for _ in range(2):
            with self.assertRaises(BadPlace):
                run_with(THREE, CHAIN, 9, ahead, back, 2)
        self.assertEqual((ahead, back), ([(1, 2)], [(1, 3), (2, 0)]))
        self.assertEqual(run_in(THREE, APART, 4, 2), (("number", 0), [1, 0], 20))

    def test_the_reference_says_what_run_says(self):
        for program in some_programs(4, 120, 4, 40):
            for number in (0, 3, 999):
                plain = Plain(program, number)
                self.assertEqual(run(program, number), (plain.told, plain.said))
                self.assertEqual(traced(program, number), [event[2] for event in plain.events])


if __name__ == "__main__":
    unittest.main()
