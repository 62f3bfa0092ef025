"""Point 13: calls and throughs that need no look; the last sentence of point 14: what is so left out loses nobody."""

import copy
import random
import unittest

from helpers import (
    ARGUMENT, NONE, NUMBER, ONE, all_papers, all_trees, counting_down, full_paper, num, program_of, way, ways,
)
from overlayhall.errors import BadPaper, BadProgram, BadTree, NotShown
from overlayhall.papers import least_paper
from overlayhall.rooms import run_in, run_with
from overlayhall.shorts import shorts
from reference import called_places, in_room, paper_holds, plain_shorts, some_papers, some_programs

ALONE = (((0,),), (-1,))
TWO_TOGETHER = (((0, 1),), (-1,))
TWO_APART = (((0,), (1,)), (-1, -1))
ZERO_UNDER = (((0,), (1,)), (-1, 0))
ZERO_OVER = (((0,), (1,)), (1, -1))

# Of three functions, each in its own part unless the name tells otherwise.
TOGETHER = (((0, 1, 2),), (-1,))
APART = (((0,), (1,), (2,)), (-1, -1, -1))
RISING = (((0,), (1,), (2,)), (-1, 0, 1))
FALLING = (((0,), (1,), (2,)), (1, 2, -1))
ON_ZERO = (((0,), (1,), (2,)), (-1, 0, 0))
ON_TWO = (((0,), (1,), (2,)), (2, 2, -1))
ONE_ON_ZERO = (((0,), (1,), (2,)), (-1, 0, -1))
TWO_ON_ZERO = (((0,), (1,), (2,)), (-1, -1, 0))
TWO_ON_PAIR = (((0, 1), (2,)), (-1, 0))
PAIR_AND_TWO = (((0, 1), (2,)), (-1, -1))
ZERO_AND_PAIR = (((0,), (1, 2)), (-1, -1))

# 0 calls 1, and that 2.
ROW = program_of(("call", 1, ARGUMENT), ("call", 2, ARGUMENT), ARGUMENT)

BAD_PROGRAM = program_of(("call", 1, ARGUMENT), ("num", 100))
BAD_TREE = (((0,), (1,)), (1, 0))


def least_shorts(program, tree):
    return shorts(program, tree, least_paper(program))


class AheadTest(unittest.TestCase):
    def ahead(self, program, tree, *places):
        self.assertEqual(least_shorts(program, tree)[0], list(places))

    def test_point_13_no_call_at_all(self):
        self.assertEqual(least_shorts(program_of(("plus", ARGUMENT, ONE)), ALONE), ([], []))

    def test_point_13_a_part_that_is_the_callers_own(self):
        self.ahead(ROW, TOGETHER, (0, 0), (1, 0))
        self.ahead(ROW, PAIR_AND_TWO, (0, 0))
        self.ahead(ROW, ZERO_AND_PAIR, (1, 0))

    def test_point_13_a_part_that_is_on_the_way_down(self):
        self.ahead(ROW, FALLING, (0, 0), (1, 0))
        self.ahead(ROW, ON_TWO, (1, 0))
        # Not only the part just below.
        far = program_of(("call", 2, ARGUMENT), ARGUMENT, ARGUMENT)
        self.ahead(far, FALLING, (0, 0))
        self.ahead(far, ON_TWO, (0, 0))

    def test_point_13_a_part_that_is_not(self):
        for tree in (APART, RISING, ON_ZERO, ONE_ON_ZERO):
            self.ahead(ROW, tree)
        self.ahead(ROW, TWO_ON_PAIR, (0, 0))

    def test_point_13_who_calls_itself(self):
        self.ahead(program_of(counting_down(0, ONE)), ALONE, (0, 2))
        for tree in (TWO_APART, ZERO_UNDER, ZERO_OVER, TWO_TOGETHER):
            self.ahead(program_of(counting_down(0, ONE), ARGUMENT), tree, (0, 2))

    def test_point_13_what_the_called_one_calls_is_of_no_worth_ahead(self):
        self.ahead(ROW, (((0,), (1,), (2,)), (1, -1, -1)), (0, 0))

    def test_point_13_a_through_with_no_ways(self):
        for tree in (TWO_APART, ZERO_UNDER, ZERO_OVER, TWO_TOGETHER):
            for other in (ONE, ARGUMENT, ("plus", way(1), way(1))):
                told = least_shorts(program_of(("through", other, num(2)), ("call", 0, ARGUMENT)), tree)
                self.assertEqual(told, ([(0, 0)], [(0, 0)]))

    def test_point_13_a_through_with_one_way(self):
        program = program_of(("through", way(1), ARGUMENT), ARGUMENT)
        self.ahead(program, TWO_TOGETHER, (0, 0))
        self.ahead(program, ZERO_OVER, (0, 0))
        self.ahead(program, ZERO_UNDER)
        self.ahead(program, TWO_APART)

    def test_point_13_a_through_with_several_ways(self):
        program = program_of(("through", ("if", ARGUMENT, way(1), way(2)), ARGUMENT), ARGUMENT, ARGUMENT)
        self.ahead(program, TOGETHER, (0, 0))
        self.ahead(program, FALLING, (0, 0))
        # 2 is on the way down, but not 1; 1 is, but not 2.
        self.ahead(program, ON_TWO)
        self.ahead(program, PAIR_AND_TWO)
        self.ahead(program, TWO_ON_PAIR)
        self.ahead(program, APART)

    def test_point_13_a_through_a_way_that_was_told(self):
        program = program_of(("through", ("call", 1, way(2)), ARGUMENT), ARGUMENT, ARGUMENT)
        self.ahead(program, ON_TWO, (0, 0))
        self.ahead(program, PAIR_AND_TWO, (0, 1))
        self.ahead(program, TOGETHER, (0, 0), (0, 1))

    def test_point_13_a_through_the_ways_that_may_come(self):
        # Both calls of 1 hand a way on; either may come at its through.
        program = program_of(
            ("then", ("call", 1, way(0)), ("call", 1, way(2))), ("through", ARGUMENT, ONE), ARGUMENT
        )
        self.ahead(program, ON_TWO)
        self.ahead(program, TOGETHER, (0, 1), (0, 3), (1, 0))
        self.ahead(program, (((0,), (1,), (2,)), (2, 0, -1)), (1, 0))

    def test_point_13_all_calls_in_a_row(self):
        program = program_of(
            ("then", ("call", 1, ("call", 2, ARGUMENT)), ("then", ("call", 2, ONE), ("through", way(1), ONE))),
            ARGUMENT,
            ARGUMENT,
        )
        self.ahead(program, TOGETHER, (0, 1), (0, 2), (0, 5), (0, 7))
        self.ahead(program, PAIR_AND_TWO, (0, 1), (0, 7))
        self.ahead(program, ON_TWO, (0, 2), (0, 5))


class BackTest(unittest.TestCase):
    def back(self, program, tree, *places):
        self.assertEqual(least_shorts(program, tree)[1], list(places))

    def test_point_13_one_called(self):
        program = program_of(("call", 1, ARGUMENT), ARGUMENT)
        for tree in (TWO_TOGETHER, ZERO_UNDER, ZERO_OVER):
            self.back(program, tree, (0, 0))
        self.back(program, TWO_APART)

    def test_point_13_who_is_called_calls_another(self):
        for tree in (TOGETHER, RISING, FALLING):
            self.back(ROW, tree, (0, 0), (1, 0))
        # 1 and 2 lie over one another, on 0.
        self.back(ROW, ON_ZERO, (0, 0))
        # 2 is under both; 0 and 1 lie over one another.
        self.back(ROW, ON_TWO, (1, 0))
        self.back(ROW, APART)
        # 1 is in the caller's part, or over it, but what it calls is laid over the caller's.
        self.back(ROW, PAIR_AND_TWO)
        self.back(ROW, ONE_ON_ZERO)
        # What it calls stands on the caller, but 1 itself is laid over it.
        self.back(ROW, TWO_ON_ZERO)
        self.back(ROW, TWO_ON_PAIR, (0, 0), (1, 0))
        self.back(ROW, ZERO_AND_PAIR, (1, 0))

    def test_point_13_far_down_the_calls(self):
        program = program_of(*[("call", f + 1, ARGUMENT) for f in range(7)], ARGUMENT)
        # The last one is laid over all the others.
        tree = ((tuple(range(7)), (7,)), (-1, -1))
        self.back(program, tree)
        tree = ((tuple(range(7)), (7,)), (-1, 0))
        self.back(program, tree, *[(f, 0) for f in range(7)])
        # 3 and 7 lie over one another, all others under both.
        tree = (((0, 1, 2, 4, 5, 6), (3,), (7,)), (-1, 0, 0))
        self.back(program, tree, *[(f, 0) for f in (0, 1, 2, 4, 5, 6)])

    def test_point_13_a_part_far_over_the_callers(self):
        program = program_of(("call", 2, ARGUMENT), ARGUMENT, ARGUMENT)
        self.back(program, RISING, (0, 0))
        self.back(program, FALLING, (0, 0))
        self.back(program, (((0,), (1,), (2,)), (-1, -1, 1)))

    def test_point_13_who_calls_itself(self):
        self.back(program_of(counting_down(0, ONE)), ALONE, (0, 2))
        program = program_of(counting_down(0, ("call", 1, ARGUMENT)), ARGUMENT)
        self.back(program, ZERO_UNDER, (0, 2), (0, 6))
        # By the innermost call 1 is laid over 0.
        self.back(program, TWO_APART)

    def test_point_13_functions_that_call_one_another(self):
        program = program_of(
            ("call", 1, ARGUMENT),
            ("if", ARGUMENT, ("call", 2, ("less", ARGUMENT, ONE)), ONE),
            ("if", ARGUMENT, ("call", 1, ("less", ARGUMENT, ONE)), ONE),
        )
        self.back(program, TOGETHER, (0, 0), (1, 2), (2, 2))
        self.back(program, RISING, (0, 0), (1, 2), (2, 2))
        self.back(program, ON_ZERO, (0, 0))
        self.back(program, ZERO_AND_PAIR, (1, 2), (2, 2))
        self.back(program, PAIR_AND_TWO)
        # The caller itself may be entered again, which takes nothing from it.
        program = program_of(("if", ARGUMENT, ("call", 1, ARGUMENT), ONE), ("call", 0, ("less", ARGUMENT, ONE)))
        self.back(program, ZERO_OVER, (0, 2), (1, 0))
        self.back(program, TWO_APART)

    def test_point_13_other_calls_of_a_function_that_is_entered_again(self):
        # 0 calls 1, which calls 0, which may call 2.
        program = program_of(
            ("if", ARGUMENT, ("call", 1, ARGUMENT), ("call", 2, ARGUMENT)), ("call", 0, ("less", ARGUMENT, ONE)), ARGUMENT
        )
        self.back(program, TWO_ON_PAIR, (0, 2), (0, 4), (1, 0))
        self.back(program, PAIR_AND_TWO)
        self.back(program, TWO_ON_ZERO, (0, 4))

    def test_point_13_a_through_with_several_ways(self):
        program = program_of(("through", ("if", ARGUMENT, way(1), way(2)), ARGUMENT), ARGUMENT, ARGUMENT)
        for tree in (TOGETHER, RISING, FALLING, ON_ZERO, TWO_ON_PAIR):
            self.back(program, tree, (0, 0))
        for tree in (ON_TWO, PAIR_AND_TWO, ONE_ON_ZERO, TWO_ON_ZERO, APART):
            self.back(program, tree)

    def test_point_13_ways_that_are_handed_on_by_who_is_entered(self):
        # 0 hands the way to 2 to 1, which goes through it.
        program = program_of(("call", 1, way(2)), ("through", ARGUMENT, ONE), ARGUMENT)
        self.back(program, TWO_ON_PAIR, (0, 0), (1, 0))
        self.back(program, PAIR_AND_TWO)
        self.back(program, ONE_ON_ZERO)
        self.back(program, ON_ZERO, (0, 0))
        # 1 tells the way to 2, and 0 goes through that.
        program = program_of(("through", ("call", 1, ARGUMENT), ONE), way(2), ARGUMENT)
        self.back(program, ONE_ON_ZERO, (0, 1))
        self.back(program, TWO_ON_ZERO, (0, 0))
        # 1 goes through what 2 hands back to it.
        program = program_of(("call", 1, ONE), ("through", ("call", 2, way(3)), ONE), ARGUMENT, ARGUMENT)
        self.back(program, (((0, 1, 2), (3,)), (-1, -1)), (1, 1))
        self.back(program, (((0, 1, 2), (3,)), (-1, 0)), (0, 0), (1, 0), (1, 1))

    def test_point_13_what_arms_enter_is_of_no_worth_to_the_call(self):
        # 2 is entered ahead of the call of 1, not by it.
        program = program_of(("call", 1, ("call", 2, ARGUMENT)), ARGUMENT, ARGUMENT)
        self.back(program, PAIR_AND_TWO, (0, 0))
        self.back(program, TWO_ON_ZERO, (0, 1))


class PapersTest(unittest.TestCase):
    # 0 calls none; 1 and 2 are called by functions alone that nothing may come to.
    NEVER = program_of(ARGUMENT, ("call", 2, ARGUMENT), ("call", 1, ONE))

    def test_point_13_functions_to_which_nothing_may_come(self):
        for tree in (TOGETHER, RISING, FALLING, ON_ZERO, APART):
            self.assertEqual(least_shorts(self.NEVER, tree), ([], []))
        program = program_of(("call", 1, ONE), ARGUMENT, ("call", 1, ONE))
        self.assertEqual(least_shorts(program, TOGETHER), ([(0, 0)], [(0, 0)]))
        # They may tell what they like, as long as nothing comes.
        paper = ((NUMBER, NUMBER), (NUMBER, NUMBER), (NONE, (True, (0, 1, 2))))
        self.assertEqual(shorts(program, TOGETHER, paper), ([(0, 0)], [(0, 0)]))

    def test_point_13_who_is_entered_by_name_alone_enters_none(self):
        # 0 never tells, so that nothing may come to 1: 0 is taken to enter it, but it is not taken to enter 2.
        program = program_of(("call", 1, ("call", 0, ARGUMENT)), ("call", 2, ONE), ARGUMENT)
        self.assertEqual(least_paper(program), ((NUMBER, NONE), (NONE, NONE), (NONE, NONE)))
        self.assertEqual(least_shorts(program, TOGETHER), ([(0, 0), (0, 1)],) * 2)
        self.assertEqual(least_shorts(program, ON_ZERO), ([(0, 1)], [(0, 0), (0, 1)]))
        self.assertEqual(least_shorts(program, PAIR_AND_TWO), ([(0, 0), (0, 1)],) * 2)
        self.assertEqual(least_shorts(program, ONE_ON_ZERO), ([(0, 1)], [(0, 0), (0, 1)]))
        # 1 itself counts, wherever it is entered: here it is laid over 0.
        self.assertEqual(least_shorts(program, APART), ([(0, 1)], []))
        self.assertEqual(least_shorts(program, TWO_ON_ZERO), ([(0, 1)], []))

    def test_point_13_who_is_entered_by_name_alone_enters_2_if_a_paper_lets_anything_come(self):
        program = program_of(("call", 1, ("call", 0, ARGUMENT)), ("call", 2, ONE), ARGUMENT)
        paper = ((NUMBER, NUMBER), (NUMBER, NUMBER), (NUMBER, NUMBER))
        self.assertEqual(shorts(program, PAIR_AND_TWO, paper), ([(0, 0), (0, 1)], []))
        self.assertEqual(shorts(program, ONE_ON_ZERO, paper), ([(0, 1)], []))
        self.assertEqual(shorts(program, ON_ZERO, paper), ([(0, 1)], [(0, 0), (0, 1)]))
        # A way alone may come to 1, whose calls count by that.
        program = program_of(
            ("call", 1, ("call", 0, ARGUMENT)), ("then", ("call", 2, ONE), ("call", 0, ONE)), ARGUMENT
        )
        self.assertEqual(least_shorts(program, PAIR_AND_TWO), ([(0, 0), (0, 1)],) * 2)
        paper = ((NUMBER, NONE), (ways(0), NONE), (NUMBER, NUMBER))
        self.assertEqual(shorts(program, PAIR_AND_TWO, paper), ([(0, 0), (0, 1), (1, 3)], []))
        # Something may come to 2 alone, which 1 is still not taken to enter.
        paper = ((NUMBER, NONE), (NONE, NONE), (NUMBER, NUMBER))
        self.assertEqual(shorts(program, PAIR_AND_TWO, paper), ([(0, 0), (0, 1)],) * 2)

    def test_point_13_who_is_entered_through_a_way_and_never_comes_enters_none(self):
        # 2 never tells, so that nothing comes to 1, whose part stands on that of 0; 2 is by itself.
        program = program_of(
            ("then", ("through", way(1), ("call", 2, ONE)), ARGUMENT), ("call", 2, num(0)), ("call", 2, ARGUMENT)
        )
        self.assertEqual(least_paper(program), ((NUMBER, NUMBER), (NONE, NONE), (NUMBER, NONE)))
        self.assertEqual(least_shorts(program, ONE_ON_ZERO), ([(2, 0)], [(0, 1), (2, 0)]))
        self.assertEqual(least_shorts(program, PAIR_AND_TWO), ([(0, 1), (2, 0)],) * 2)
        self.assertEqual(least_shorts(program, APART), ([(2, 0)], [(2, 0)]))
        self.assertEqual(least_shorts(program, RISING), ([(2, 0)], [(0, 1), (0, 3), (2, 0)]))
        # Nothing comes to 1 by what 2 tells, so its through enters none either.
        program = program_of(
            ("then", ("call", 1, ("call", 2, ONE)), ARGUMENT), ("through", way(2), ONE), ("call", 2, ARGUMENT)
        )
        self.assertEqual(least_shorts(program, ONE_ON_ZERO), ([(2, 0)], [(0, 1), (2, 0)]))

    def test_point_13_who_never_comes_far_down_the_calls(self):
        # 0 calls 1, to which a number comes, and that 2, to which nothing does, since 4 never tells; 2 names 3.
        program = program_of(
            ("call", 1, ARGUMENT),
            ("call", 2, ("call", 4, ARGUMENT)),
            ("call", 3, ("through", way(3), ARGUMENT)),
            ARGUMENT,
            ("call", 4, ARGUMENT),
        )
        came = [sheet[0] for sheet in least_paper(program)]
        self.assertEqual(came, [NUMBER, NUMBER, NONE, NONE, NUMBER])
        # 3 is laid over all others, but none enters it.
        tree = (((0, 1, 2, 4), (3,)), (-1, -1))
        self.assertEqual(least_shorts(program, tree), ([(0, 0), (1, 0), (1, 1), (4, 0)],) * 2)
        # 2 is laid over all others, and entered.
        tree = (((0, 1, 3, 4), (2,)), (-1, -1))
        self.assertEqual(least_shorts(program, tree), ([(0, 0), (1, 1), (4, 0)], [(1, 1), (4, 0)]))

    def test_point_13_who_never_comes_and_is_entered_by_others_as_well(self):
        # 1 never comes, and names 2; so does 0, whose own call of 2 counts.
        program = program_of(
            ("then", ("call", 2, ARGUMENT), ("call", 1, ("call", 0, ARGUMENT))), ("call", 2, ONE), ARGUMENT
        )
        self.assertEqual(least_shorts(program, TOGETHER), ([(0, 1), (0, 3), (0, 4)],) * 2)
        # 0 enters 2 as well, so that its call of itself wants a look.
        self.assertEqual(least_shorts(program, PAIR_AND_TWO), ([(0, 3), (0, 4)], [(0, 3)]))

    def test_point_13_if_a_paper_lets_a_number_or_a_way_come(self):
        for came in (NUMBER, ways(0), (True, (0, 1, 2))):
            paper = ((NUMBER, NUMBER), ((True, came[1]), NONE), ((True, came[1]), NONE))
            self.assertEqual(shorts(self.NEVER, TOGETHER, paper), ([(1, 0), (2, 0)],) * 2)
            self.assertEqual(shorts(self.NEVER, FALLING, paper), ([(1, 0)], [(1, 0), (2, 0)]))
        # A way alone may come to 2, which calls 1 with 1.
        program = program_of(ARGUMENT, ARGUMENT, ("call", 1, ONE))
        paper = ((NUMBER, NUMBER), (NUMBER, NUMBER), (ways(0), NUMBER))
        self.assertEqual(shorts(program, TOGETHER, paper), ([(2, 0)], [(2, 0)]))

    def test_point_13_what_may_be_is_that_of_the_paper_not_of_the_least(self):
        program = program_of(("through", ARGUMENT, ONE), ARGUMENT, ("call", 1, ONE))
        self.assertEqual(least_shorts(program, APART), ([(0, 0)], [(0, 0)]))
        paper = (((True, (1,)), NUMBER), (NUMBER, NUMBER), (NONE, NONE))
        self.assertEqual(shorts(program, APART, paper), ([], []))
        self.assertEqual(shorts(program, ONE_ON_ZERO, paper), ([], [(0, 0)]))
        self.assertEqual(shorts(program, PAIR_AND_TWO, paper), ([(0, 0)], [(0, 0)]))
        # Through 2, too, 1 may be entered.
        paper = (((True, (2,)), NUMBER), (NUMBER, NUMBER), (NUMBER, NUMBER))
        self.assertEqual(shorts(program, TWO_ON_ZERO, paper), ([], []))
        self.assertEqual(shorts(program, ON_ZERO, paper), ([], [(0, 0)]))
        self.assertEqual(shorts(program, TWO_ON_PAIR, paper), ([(2, 0)], [(0, 0), (2, 0)]))

    def test_point_13_the_full_paper(self):
        program = program_of(("through", ("call", 1, ARGUMENT), ONE), ARGUMENT, ONE)
        self.assertEqual(shorts(program, PAIR_AND_TWO, full_paper(3)), ([(0, 1)], [(0, 1)]))
        self.assertEqual(shorts(program, FALLING, full_paper(3)), ([(0, 0), (0, 1)],) * 2)
        self.assertEqual(shorts(program, RISING, full_paper(3)), ([], [(0, 0), (0, 1)]))

    def test_point_13_all_papers_of_two_functions(self):
        papers = all_papers(2)
        shown = 0
        for program in some_programs(130, 4, 2, 14):
            for paper in papers:
                for tree in all_trees(2):
                    if paper_holds(program, paper):
                        self.assertEqual(shorts(program, tree, paper), plain_shorts(program, tree, paper))
                        shown += 1
                    else:
                        with self.assertRaises(NotShown):
                            shorts(program, tree, paper)
        self.assertGreater(shown, 200)

    def test_point_13_some_programs_trees_and_papers(self):
        chance = random.Random(131)
        for functions in range(1, 9):
            trees = all_trees(min(functions, 4))
            for program in some_programs(132 + functions, 30, functions, 40):
                for paper in some_papers(133, program, 4):
                    parts, stands = chance.choice(trees)
                    # What lies in no part yet is put into the last one.
                    parts = parts[:-1] + (parts[-1] + tuple(range(4, functions)),)
                    tree = (parts, stands)
                    self.assertEqual(
                        shorts(program, tree, paper), plain_shorts(program, tree, paper), (program, tree, paper)
                    )

    def test_point_13_every_tree_of_three_functions(self):
        for program in some_programs(134, 25, 3, 40):
            for paper in some_papers(135, program, 3):
                for tree in all_trees(3):
                    self.assertEqual(shorts(program, tree, paper), plain_shorts(program, tree, paper))


class RefusedTest(unittest.TestCase):
    def test_point_13_papers_that_do_not_hold(self):
        for paper in (
            ((NONE, NONE),) * 3,
            ((NONE, NUMBER), (NUMBER, NUMBER), (NUMBER, NUMBER)),
            ((NUMBER, NUMBER), (NONE, NUMBER), (NUMBER, NUMBER)),
            ((NUMBER, NUMBER), (NUMBER, NUMBER), (NUMBER, NONE)),
            ((NUMBER, ways(0)), (NUMBER, NUMBER), (NUMBER, NUMBER)),
        ):
            for tree in (TOGETHER, APART, RISING):
                with self.assertRaises(NotShown, msg=str(paper)):
                    shorts(ROW, tree, paper)

    def test_refused_in_the_order_in_which_they_are_handed_in(self):
        program = program_of(("call", 1, ARGUMENT), ARGUMENT)
        no_paper = ((NUMBER, NUMBER),)
        not_held = ((NONE, NONE),) * 2
        for tree in (BAD_TREE, TWO_APART):
            for paper in (no_paper, not_held, full_paper(2)):
                with self.assertRaises(BadProgram) as caught:
                    shorts(BAD_PROGRAM, tree, paper)
                self.assertEqual(caught.exception.function, 1)
        for paper in (no_paper, not_held, full_paper(2)):
            with self.assertRaises(BadTree):
                shorts(program, BAD_TREE, paper)
        with self.assertRaises(BadPaper):
            shorts(program, TWO_APART, no_paper)
        with self.assertRaises(BadPaper):
            shorts(program, TWO_APART, ((NONE, NONE), (NONE, ways(2))))
        with self.assertRaises(NotShown):
            shorts(program, TWO_APART, not_held)
        self.assertEqual(shorts(program, TWO_APART, full_paper(2)), ([], []))


class LeftOutTest(unittest.TestCase):
    """Point 14: without the looks that shorts tells nobody is lost."""

    def same(self, program, tree, paper, number):
        """Tells how many looks of a run are left out, all in all."""
        ahead, back = shorts(program, tree, paper)
        told = run_in(program, tree, 64, number)
        looks = run_with(program, tree, 64, [], [], number)[3]
        with_these = [run_with(program, tree, 64, *lists, number) for lists in ((ahead, back), (ahead, []), ([], back))]
        for lists, without in zip(((ahead, back), (ahead, []), ([], back)), with_these):
            self.assertEqual(without[:3], told, (program, tree, paper, number))
            self.assertEqual(without, in_room(program, tree, *lists, number))
        # Each look that is left out is ahead or back.
        both, one, other = [looks - without[3] for without in with_these]
        self.assertEqual(both, one + other)
        return both

    def test_point_14_by_hand(self):
        program = (
            (3, ("call", 1, ARGUMENT)),
            (2, ("if", ARGUMENT, ("call", 1, ("call", 2, ("less", ARGUMENT, ONE))), ARGUMENT)),
            (4, ("say", ARGUMENT)),
        )
        # Looked at are 0, 1, 2, 1, 1, 2, 1, 1, 1, 1, 0.
        told = (("number", 0), [1, 0])
        paper = least_paper(program)
        self.assertEqual(shorts(program, TOGETHER, paper), ([(0, 0), (1, 2), (1, 3)],) * 2)
        self.assertEqual(self.same(program, TOGETHER, paper, 2), 10)
        self.assertEqual(shorts(program, RISING, paper), ([(1, 2)], [(0, 0), (1, 2), (1, 3)]))
        self.assertEqual(run_with(program, RISING, 9, [(1, 2)], [(0, 0), (1, 2), (1, 3)], 2), told + (9, 4))
        self.assertEqual(shorts(program, ON_ZERO, paper), ([(1, 2)], [(0, 0)]))
        self.assertEqual(run_with(program, ON_ZERO, 7, [(1, 2)], [(0, 0)], 2), told + (17, 8))
        self.assertEqual(shorts(program, APART, paper), ([(1, 2)], []))
        self.assertEqual(self.same(program, APART, paper, 2), 2)

    def test_point_14_both_lists_and_each_alone(self):
        left_out = 0
        for program in some_programs(140, 15, 3, 40):
            for paper in some_papers(141, program, 2):
                for tree in all_trees(3):
                    left_out += self.same(program, tree, paper, 2)
        self.assertGreater(left_out, 1000)

    def test_point_14_more_functions_numbers_and_papers(self):
        chance = random.Random(142)
        trees = all_trees(5)
        for program in some_programs(143, 60, 5, 40):
            for paper in some_papers(144, program, 3):
                for number in (0, 1, 999):
                    self.same(program, chance.choice(trees), paper, number)

    def test_point_14_some_places_that_shorts_does_not_tell_lose_somebody(self):
        lost = 0
        for program in some_programs(145, 25, 3, 40):
            for tree in all_trees(3):
                for kind, told in enumerate(least_shorts(program, tree)):
                    for place in called_places(program):
                        if place not in told:
                            lists = [[], []]
                            lists[kind].append(place)
                            lost += run_with(program, tree, 64, *lists, 2)[0][0] == "lost"
        self.assertGreater(lost, 100)


class HeadTest(unittest.TestCase):
    def test_point_13_the_kinds_of_values(self):
        told = least_shorts(ROW, TOGETHER)
        self.assertEqual((told.__class__, len(told)), (tuple, 2))
        for places in told:
            self.assertIs(places.__class__, list)
            for place in places:
                self.assertEqual((place.__class__, len(place)), (tuple, 2))
                self.assertTrue(all(number.__class__ is int for number in place))

    def test_point_13_both_lists_rise(self):
        for program in some_programs(136, 40, 4, 40):
            for places in least_shorts(program, (((0, 1, 2, 3),), (-1,))):
                self.assertEqual(places, sorted(set(places)))

    def test_point_1_what_is_told_may_be_changed(self):
        for kind in (0, 1):
            told = least_shorts(ROW, TOGETHER)
            told[kind].append((2, 0))
            told[kind][0] = "other"
            self.assertEqual(told[1 - kind], [(0, 0), (1, 0)])
            self.assertEqual(least_shorts(ROW, TOGETHER), ([(0, 0), (1, 0)],) * 2)

    def test_point_1_nothing_handed_in_is_changed(self):
        handed = copy.deepcopy((ROW, RISING, full_paper(3)))
        paper = full_paper(3)
        told = shorts(ROW, RISING, paper)
        self.assertEqual((ROW, RISING, paper), handed)
        self.assertEqual(shorts(ROW, RISING, paper), told)

    def test_point_1_what_is_refused_changes_nothing(self):
        for _ in range(2):
            with self.assertRaises(NotShown):
                shorts(ROW, RISING, ((NONE, NONE),) * 3)
        self.assertEqual(least_shorts(ROW, RISING), ([], [(0, 0), (1, 0)]))


if __name__ == "__main__":
    unittest.main()
