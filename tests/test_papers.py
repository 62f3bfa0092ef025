"""Points 10 to 12: papers, which of them hold, and the least."""

import copy
import itertools
import unittest

from helpers import ARGUMENT, NONE, NUMBER, ONE, all_papers, full_paper, num, program_of, way, ways
from overlayhall.errors import BadPaper, BadProgram
from overlayhall.papers import holds, least_paper
from reference import Plain, opened, paper_holds, some_programs

# 0 goes through the way that 1 tells, and hands a way to 2 there; 2 says a number, and tells what came.
HANDING = program_of(
    ("through", ("call", 1, ARGUMENT), way(0)),
    ("then", ("say", ARGUMENT), way(2)),
    ("if", ("call", 3, num(5)), ARGUMENT, ("say", ONE)),
    ARGUMENT,
    ("call", 0, way(3)),
)
LEAST_HANDING = (
    (NUMBER, (True, (0,))),
    (NUMBER, (False, (2,))),
    ((False, (0,)), (True, (0,))),
    (NUMBER, NUMBER),
    (NONE, NONE),
)


def with_worths(paper, function, side, worths):
    """A paper in which one thing stands in the place of what stood there."""
    sheet = list(paper[function])
    sheet[side] = worths
    return paper[:function] + (tuple(sheet),) + paper[function + 1:]


def one_thing_less(paper):
    """All papers that lack one thing of this one."""
    found = []
    for function, side in itertools.product(range(len(paper)), range(2)):
        numbers, led = paper[function][side]
        if numbers:
            found.append(with_worths(paper, function, side, (False, led)))
        for way_out in led:
            rest = tuple(other for other in led if other != way_out)
            found.append(with_worths(paper, function, side, (numbers, rest)))
    return found


def within(less, more):
    """Whether everything in a paper is in another one."""
    return all(
        opened(some) <= opened(others) for sheet, other in zip(less, more) for some, others in zip(sheet, other)
    )


class PaperTest(unittest.TestCase):
    def refused(self, paper, program=HANDING):
        with self.assertRaises(BadPaper, msg=str(paper)):
            holds(program, paper)

    def test_point_10_papers_that_there_may_be(self):
        self.assertIs(holds(HANDING, LEAST_HANDING), True)
        self.assertIs(holds(HANDING, full_paper(5)), True)
        self.assertIs(holds(HANDING, ((NONE, NONE),) * 5), False)

    def test_point_10_wrong_counts(self):
        sheet = (NUMBER, NUMBER)
        for paper in ((), (sheet,), (sheet,) * 4, (sheet,) * 6, LEAST_HANDING + (sheet,), LEAST_HANDING[:4]):
            self.refused(paper)
        for wrong in ((), (NUMBER,), (NUMBER, NUMBER, NUMBER), NUMBER, NONE, (True,), (True, False)):
            self.refused(LEAST_HANDING[:4] + (wrong,))
            self.refused((wrong,) + LEAST_HANDING[1:])
        for wrong in ((), (True,), ((),), (True, (), ()), (True, True), (True, 1), (True, 0)):
            for function, side in itertools.product(range(5), range(2)):
                self.refused(with_worths(LEAST_HANDING, function, side, wrong))

    def test_point_10_what_is_no_tuple(self):
        for wrong in (True, False, 0, 1):
            self.refused(LEAST_HANDING[:4] + (wrong,))
            for side in range(2):
                self.refused(with_worths(LEAST_HANDING, 4, side, wrong))

    def test_point_10_rows_that_do_not_rise(self):
        for led in ((1, 0), (0, 0), (0, 2, 1), (1, 2, 3, 3), (4, 3, 2, 1, 0)):
            for function, side in itertools.product(range(5), range(2)):
                self.refused(with_worths(LEAST_HANDING, function, side, (True, led)))

    def test_point_10_functions_that_there_are_not(self):
        for led in ((5,), (-1,), (-1, 0), (0, 1, 5), (8,), (0, 100)):
            for function, side in itertools.product(range(5), range(2)):
                self.refused(with_worths(LEAST_HANDING, function, side, (False, led)))

    def test_point_10_numbers_in_the_place_of_truths(self):
        for numbers in (0, 1, 2, -1, (), (True,)):
            for function, side in itertools.product(range(5), range(2)):
                self.refused(with_worths(LEAST_HANDING, function, side, (numbers, ())))

    def test_point_10_truths_and_tuples_in_the_place_of_functions(self):
        for led in ((True,), (False,), (False, True), (0, True), ((0,),), (0, (1,)), ((),)):
            for function, side in itertools.product(range(5), range(2)):
                self.refused(with_worths(LEAST_HANDING, function, side, (True, led)))

    def test_point_10_a_paper_that_would_hold_for_more_functions(self):
        self.refused(full_paper(6))
        self.refused((((True, (0, 5)), NUMBER),) + LEAST_HANDING[1:])

    def test_a_program_is_refused_ahead_of_a_paper(self):
        bad = program_of(ARGUMENT, ("way", 2))
        for paper in ((), full_paper(2), ((NONE, NONE), (NONE, (2, ())))):
            with self.assertRaises(BadProgram) as caught:
                holds(bad, paper)
            self.assertEqual(caught.exception.function, 1)
        with self.assertRaises(BadProgram) as caught:
            least_paper(bad)
        self.assertEqual(caught.exception.function, 1)
        with self.assertRaises(BadProgram):
            least_paper(())


class HoldsTest(unittest.TestCase):
    def yes(self, program, *sheets):
        self.assertIs(holds(program, sheets), True)

    def no(self, program, *sheets):
        self.assertIs(holds(program, sheets), False)

    def test_point_11_number_must_come_to_function_0(self):
        program = program_of(ONE)
        self.yes(program, (NUMBER, NUMBER))
        self.yes(program, ((True, (0,)), NUMBER))
        self.no(program, (NONE, NUMBER))
        self.no(program, (ways(0), NUMBER))
        self.no(program, (NONE, NONE))

    def test_point_11_what_is_told_must_be_told(self):
        for body in (
            num(7), ("plus", ARGUMENT, way(0)), ("less", way(0), way(0)), ("times", ONE, ONE), ("say", way(0)),
        ):
            program = program_of(body)
            self.yes(program, (NUMBER, NUMBER))
            self.yes(program, (NUMBER, (True, (0,))))
            self.no(program, (NUMBER, NONE))
            self.no(program, (NUMBER, ways(0)))

    def test_point_11_a_way_is_just_that(self):
        program = program_of(way(1), ONE)
        self.yes(program, (NUMBER, ways(1)), (NONE, NONE))
        self.yes(program, (NUMBER, (True, (0, 1))), (NONE, NONE))
        self.no(program, (NUMBER, ways(0)), (NONE, NONE))
        self.no(program, (NUMBER, NUMBER), (NONE, NONE))
        self.no(program, (NUMBER, NONE), (NONE, NONE))

    def test_point_11_an_argument_is_what_may_come(self):
        program = program_of(ARGUMENT, ONE)
        self.yes(program, (NUMBER, NUMBER), (NONE, NONE))
        self.yes(program, ((True, (1,)), (True, (1,))), (NONE, NONE))
        self.no(program, ((True, (1,)), NUMBER), (NONE, NONE))
        self.no(program, ((True, (0, 1)), (True, (1,))), (NONE, NONE))
        self.no(program, ((True, (1,)), ways(1)), (NONE, NONE))

    def test_point_11_an_if_is_what_its_second_or_third_arm_may_be(self):
        program = program_of(("if", ("if", ONE, ONE, way(1)), way(0), ARGUMENT), ONE)
        self.yes(program, (NUMBER, (True, (0,))), (NONE, NONE))
        self.no(program, (NUMBER, NUMBER), (NONE, NONE))
        self.no(program, (NUMBER, ways(0)), (NONE, NONE))
        # Either may be, whatever the first one is.
        program = program_of(("if", num(0), way(0), way(1)), ONE)
        self.yes(program, (NUMBER, ways(0, 1)), (NONE, NONE))
        self.no(program, (NUMBER, ways(0)), (NONE, NONE))
        self.no(program, (NUMBER, ways(1)), (NONE, NONE))

    def test_point_11_a_then_is_what_its_second_arm_may_be(self):
        program = program_of(("then", way(1), ARGUMENT), ONE)
        self.yes(program, (NUMBER, NUMBER), (NONE, NONE))
        self.no(program, (NUMBER, ways(1)), (NONE, NONE))

    def test_point_11_a_call(self):
        program = program_of(("call", 1, way(0)), ("then", ARGUMENT, ONE))
        self.yes(program, (NUMBER, NUMBER), (ways(0), NUMBER))
        self.no(program, (NUMBER, NUMBER), (ways(1), NUMBER))
        self.no(program, (NUMBER, NUMBER), (NUMBER, NUMBER))
        self.no(program, (NUMBER, NUMBER), (NONE, NUMBER))
        self.no(program, (NUMBER, NONE), (ways(0), NUMBER))
        self.no(program, (NUMBER, NUMBER), (ways(0), NONE))
        # Whoever is called may tell more: so may the caller, then.
        self.no(program, (NUMBER, NUMBER), (ways(0), (True, (1,))))
        self.yes(program, (NUMBER, (True, (1,))), (ways(0), (True, (1,))))

    def test_point_11_a_through(self):
        program = program_of(("through", ("if", ARGUMENT, way(1), way(2)), way(0)), ONE, ARGUMENT)
        least = ((NUMBER, (True, (0,))), (ways(0), NUMBER), (ways(0), ways(0)))
        self.yes(program, *least)
        for less in one_thing_less(least):
            self.no(program, *less)
        self.assertEqual(len(one_thing_less(least)), 7)

    def test_point_11_a_through_what_is_a_number_is_left_aside(self):
        program = program_of(("through", ("if", ARGUMENT, way(1), ONE), way(0)), ONE)
        self.yes(program, (NUMBER, NUMBER), (ways(0), NUMBER))
        program = program_of(("through", ONE, way(0)), ONE)
        self.yes(program, (NUMBER, NONE), (NONE, NONE))

    def test_point_11_a_through_what_came(self):
        program = program_of(("then", ("call", 1, way(2)), ONE), ("through", ARGUMENT, ARGUMENT), ARGUMENT)
        least = ((NUMBER, NUMBER), (ways(2), ways(2)), (ways(2), ways(2)))
        self.yes(program, *least)
        for less in one_thing_less(least):
            self.no(program, *less)
        # If a way to 1 may come, too, all of it must come through that.
        more = (ways(1, 2), ways(1, 2))
        self.yes(program, (NUMBER, NUMBER), more, more)
        self.no(program, (NUMBER, NUMBER), more, (ways(2), ways(1, 2)))
        self.no(program, (NUMBER, NUMBER), (ways(1, 2), ways(2)), more)

    def test_point_11_all_words_within_a_body(self):
        call = ("call", 1, way(0))
        for body in (
            ("say", call), ("plus", call, ONE), ("plus", ONE, call), ("less", call, ONE), ("times", ONE, call),
            ("if", call, ONE, ONE), ("if", ONE, call, ONE), ("if", ONE, ONE, call), ("then", call, ONE),
            ("then", ONE, call), ("call", 1, ("then", call, way(0))), ("through", call, ONE),
            ("say", ("say", ("say", ("say", ("say", call))))), ("through", ("then", call, way(1)), way(0)),
        ):
            program = program_of(body, ONE)
            self.yes(program, (NUMBER, NUMBER), (ways(0), NUMBER))
            self.no(program, (NUMBER, NUMBER), (NONE, NUMBER))
            self.no(program, (NUMBER, NUMBER), (NUMBER, NUMBER))
            self.no(program, (NUMBER, NUMBER), (ways(1), NUMBER))

    def test_point_11_the_arm_of_a_through_that_is_its_way(self):
        program = program_of(("through", way(1), ("then", ("call", 2, way(0)), ONE)), ONE, ONE)
        self.yes(program, (NUMBER, NUMBER), (NUMBER, NUMBER), (ways(0), NUMBER))
        self.no(program, (NUMBER, NUMBER), (NUMBER, NUMBER), (NONE, NUMBER))
        self.no(program, (NUMBER, NUMBER), (NONE, NUMBER), (ways(0), NUMBER))

    def test_point_11_functions_to_which_nothing_may_come(self):
        program = program_of(ONE, ("then", ("call", 0, way(0)), way(1)))
        self.yes(program, (NUMBER, NUMBER), (NONE, NONE))
        # It may tell what it never does.
        self.yes(program, (NUMBER, NUMBER), (NONE, ways(0)))
        for came in (NUMBER, ways(1), (True, (0, 1))):
            self.no(program, (NUMBER, NUMBER), (came, NONE))
            self.no(program, (NUMBER, NUMBER), (came, ways(1)))
            self.no(program, ((True, (0,)), NUMBER), (came, NONE))
            self.yes(program, ((True, (0,)), NUMBER), (came, ways(1)))

    def test_point_11_a_call_of_what_never_tells(self):
        # 0 calls itself for ever, so that nothing is handed to 1.
        program = program_of(("call", 1, ("call", 0, ARGUMENT)), ("call", 0, way(1)))
        self.yes(program, (NUMBER, NONE), (NONE, NONE))
        self.no(program, (NUMBER, NUMBER), (NONE, NONE))

    def test_point_11_what_lacks_one_thing(self):
        self.yes(HANDING, *LEAST_HANDING)
        lacking = one_thing_less(LEAST_HANDING)
        self.assertEqual(len(lacking), 10)
        for less in lacking:
            self.no(HANDING, *less)

    def test_point_11_every_paper_of_two_functions(self):
        papers = all_papers(2)
        self.assertEqual(len(papers), 4096)
        for program in some_programs(11, 8, 2, 14):
            for paper in papers:
                self.assertEqual(holds(program, paper), paper_holds(program, paper), (program, paper))


class LeastTest(unittest.TestCase):
    def test_point_11_the_kinds_of_values(self):
        paper = least_paper(program_of(("then", ("say", ARGUMENT), way(1)), ONE))
        self.assertEqual(paper, ((NUMBER, ways(1)), (NONE, NONE)))
        for sheet in paper:
            self.assertEqual((paper.__class__, sheet.__class__, len(sheet)), (tuple, tuple, 2))
            for numbers, led in sheet:
                self.assertEqual((numbers.__class__, led.__class__), (bool, tuple))
                self.assertTrue(all(function.__class__ is int for function in led))

    def test_point_11_one_function(self):
        self.assertEqual(least_paper(program_of(ARGUMENT)), ((NUMBER, NUMBER),))
        self.assertEqual(least_paper(program_of(way(0))), ((NUMBER, ways(0)),))
        self.assertEqual(least_paper(program_of(("if", ARGUMENT, way(0), ONE))), ((NUMBER, (True, (0,))),))
        self.assertEqual(least_paper(program_of(("through", ARGUMENT, ONE))), ((NUMBER, NONE),))

    def test_point_11_ways_handed_about(self):
        self.assertEqual(least_paper(HANDING), LEAST_HANDING)
        # A way goes from 0 to 1, to 2, and is gone through there; what is told goes all the way back.
        program = program_of(
            ("call", 1, way(3)), ("call", 2, ARGUMENT), ("through", ARGUMENT, way(1)), ("if", ONE, ARGUMENT, way(0))
        )
        self.assertEqual(
            least_paper(program),
            ((NUMBER, ways(0, 1)), (ways(3), ways(0, 1)), (ways(3), ways(0, 1)), (ways(1), ways(0, 1))),
        )

    def test_point_11_a_function_that_calls_itself_with_more(self):
        program = program_of(("if", ARGUMENT, ("call", 0, way(0)), ("call", 0, way(1))), ARGUMENT)
        self.assertEqual(least_paper(program), (((True, (0, 1)), NONE), (NONE, NONE)))
        program = program_of(("if", ARGUMENT, ("call", 0, way(1)), ARGUMENT), ARGUMENT)
        self.assertEqual(least_paper(program), (((True, (1,)), (True, (1,))), (NONE, NONE)))

    def test_point_11_functions_that_call_one_another(self):
        program = program_of(
            ("call", 1, ARGUMENT),
            ("if", ARGUMENT, ("call", 2, ("less", ARGUMENT, ONE)), way(2)),
            ("if", ARGUMENT, ("call", 1, ("less", ARGUMENT, ONE)), num(7)),
        )
        self.assertEqual(least_paper(program), ((NUMBER, (True, (2,))),) + ((NUMBER, (True, (2,))),) * 2)

    def test_point_11_functions_that_are_never_called(self):
        program = program_of(ONE, ("call", 2, way(1)), ("call", 1, way(0)))
        self.assertEqual(least_paper(program), ((NUMBER, NUMBER), (NONE, NONE), (NONE, NONE)))
        # A way alone enters nobody.
        program = program_of(way(1), way(0))
        self.assertEqual(least_paper(program), ((NUMBER, ways(1)), (NONE, NONE)))

    def test_point_11_what_never_tells_hands_nothing_on(self):
        program = program_of(("call", 1, ("call", 0, ARGUMENT)), ("call", 0, way(1)))
        self.assertEqual(least_paper(program), ((NUMBER, NONE), (NONE, NONE)))

    def test_point_11_a_long_row_of_functions(self):
        # Ways climb from function to function; each adds its own.
        bodies = [("call", f + 1, ("if", ONE, ARGUMENT, way(f))) for f in range(7)]
        paper = least_paper(program_of(*bodies, ARGUMENT))
        told = (True, tuple(range(7)))
        self.assertEqual(paper, tuple(((True, tuple(range(f))), told) for f in range(8)))
        # The same, from the last to the first.
        last = [("call", f - 1, ("if", ONE, ARGUMENT, way(f))) for f in range(2, 8)]
        paper = least_paper(program_of(("call", 7, ARGUMENT), ARGUMENT, *last))
        told = (True, tuple(range(2, 8)))
        self.assertEqual(paper, ((NUMBER, told),) + tuple(((True, tuple(range(f + 1, 8))), told) for f in range(1, 8)))

    def test_point_11_everything_in_it_is_in_each_that_holds(self):
        for program in some_programs(110, 8, 2, 14):
            least = least_paper(program)
            self.assertTrue(paper_holds(program, least))
            for paper in all_papers(2):
                if paper_holds(program, paper):
                    self.assertTrue(within(least, paper), (program, paper))

    def test_point_11_it_holds_and_none_that_lacks_one_thing_does(self):
        for functions in range(1, 9):
            for program in some_programs(111 + functions, 20, functions, 40):
                least = least_paper(program)
                self.assertIs(holds(program, least), True)
                self.assertIs(holds(program, full_paper(functions)), True)
                for less in one_thing_less(least):
                    self.assertIs(holds(program, less), False, (program, less))

    def test_point_12_only_what_may_come_does_come(self):
        met = 0
        for functions in range(1, 6):
            for program in some_programs(120 + functions, 60, functions, 40):
                least = least_paper(program)
                for number in (0, 1, 3, 999):
                    plain = Plain(program, number)
                    for side, found in enumerate((plain.came, plain.tells)):
                        for function, (kind, worth) in found:
                            self.assertIn(worth if kind == "way" else "number", opened(least[function][side]), program)
                            met += kind == "way"
        self.assertGreater(met, 200)

    def test_point_12_only_who_may_be_entered_is(self):
        for program in some_programs(125, 60, 4, 40):
            least = least_paper(program)
            for kind, place, function, _ in Plain(program, 1).events:
                if kind == "enter" and place is not None:
                    self.assertNotEqual(least[function][0], NONE)


class HeadTest(unittest.TestCase):
    def test_point_1_the_same_is_told_again(self):
        self.assertEqual(least_paper(HANDING), least_paper(HANDING))
        for paper in (LEAST_HANDING, ((NONE, NONE),) * 5):
            self.assertEqual(holds(HANDING, paper), holds(HANDING, paper))

    def test_point_1_nothing_handed_in_is_changed(self):
        handed = copy.deepcopy((HANDING, LEAST_HANDING))
        holds(HANDING, LEAST_HANDING)
        least_paper(HANDING)
        self.assertEqual((HANDING, LEAST_HANDING), handed)

    def test_point_1_what_is_refused_changes_nothing(self):
        for _ in range(2):
            with self.assertRaises(BadPaper):
                holds(HANDING, LEAST_HANDING[:4])
        self.assertIs(holds(HANDING, LEAST_HANDING), True)


if __name__ == "__main__":
    unittest.main()
