"""Points 4 and 5, and of point 2 what each word is worth."""

import unittest

from helpers import ARGUMENT, ONE, counting_down, flat_calls, num, program_of, row_of, way
from overlayhall.errors import BadNumber
from overlayhall.plain import run, traced

KIND = ("fault", "kind")
DEEP = ("fault", "deep")
LONG = ("fault", "long")


def say(n):
    return ("say", num(n))


def told(*bodies, number=0):
    return run(program_of(*bodies), number)[0]


def calling(calls, *more):
    """A program that does so many calls, none within more than two others, and more bodies in turn.

    Calls are 1 for function 1, 10 for function 2, 13 for function 3 and 50 for function 4.
    """
    flat = []
    for worth, function in ((50, 4), (13, 3), (10, 2), (1, 1)):
        flat += flat_calls(function, calls // worth)
        calls %= worth
    return program_of(
        row_of(flat + list(more)),
        ARGUMENT,
        row_of(flat_calls(1, 9)),
        row_of(flat_calls(1, 12)),
        row_of(flat_calls(2, 4) + flat_calls(1, 9)),
        counting_down(5, num(6)),
    )


def calls_of(program, number=0):
    """How many calls a run without a fault does."""
    return (len(traced(program, number)) - 1) // 2


class WordsTest(unittest.TestCase):
    def test_numbers_and_the_argument(self):
        self.assertEqual(told(num(0)), ("number", 0))
        self.assertEqual(told(num(99)), ("number", 99))
        self.assertEqual(told(ARGUMENT, number=123), ("number", 123))

    def test_a_way(self):
        self.assertEqual(told(way(1), ONE), ("way", 1))
        self.assertEqual(told(way(0)), ("way", 0))

    def test_plus_is_the_rest_by_1000(self):
        self.assertEqual(told(("plus", ARGUMENT, num(40)), number=2), ("number", 42))
        self.assertEqual(told(("plus", ARGUMENT, ONE), number=998), ("number", 999))
        self.assertEqual(told(("plus", ARGUMENT, ONE), number=999), ("number", 0))
        self.assertEqual(told(("plus", ARGUMENT, ARGUMENT), number=999), ("number", 998))

    def test_less_is_the_rest_by_1000(self):
        self.assertEqual(told(("less", num(9), num(4))), ("number", 5))
        self.assertEqual(told(("less", num(4), num(4))), ("number", 0))
        self.assertEqual(told(("less", num(4), num(9))), ("number", 995))
        self.assertEqual(told(("less", num(0), ARGUMENT), number=999), ("number", 1))

    def test_times_is_the_rest_by_1000(self):
        self.assertEqual(told(("times", num(9), num(4))), ("number", 36))
        self.assertEqual(told(("times", ARGUMENT, num(4)), number=250), ("number", 0))
        self.assertEqual(told(("times", ARGUMENT, ARGUMENT), number=999), ("number", 1))

    def test_if_does_one_of_its_last_arms(self):
        body = ("if", ARGUMENT, say(1), say(2))
        self.assertEqual(run(program_of(body), 5), (("number", 1), [1]))
        self.assertEqual(run(program_of(body), 0), (("number", 2), [2]))
        self.assertEqual(told(("if", ONE, way(0), ONE)), ("way", 0))

    def test_then_is_worth_its_last_arm(self):
        self.assertEqual(run(program_of(("then", say(1), say(2))), 0), (("number", 2), [1, 2]))
        self.assertEqual(told(("then", way(0), num(2))), ("number", 2))
        self.assertEqual(told(("then", num(2), way(0))), ("way", 0))

    def test_say_says_and_tells(self):
        self.assertEqual(run(program_of(("say", ("plus", say(3), num(4)))), 0), (("number", 7), [3, 7]))

    def test_call(self):
        self.assertEqual(told(("call", 1, num(4)), ("plus", ARGUMENT, ONE)), ("number", 5))
        self.assertEqual(told(("call", 1, way(1)), ARGUMENT), ("way", 1))
        self.assertEqual(told(("plus", ("call", 1, num(4)), ARGUMENT), num(7), number=2), ("number", 9))

    def test_through(self):
        self.assertEqual(told(("through", way(1), num(4)), ("plus", ARGUMENT, ONE)), ("number", 5))
        self.assertEqual(told(("through", ("call", 1, way(2)), num(4)), ARGUMENT, num(8)), ("number", 8))
        self.assertEqual(told(("through", way(1), way(0)), ARGUMENT), ("way", 0))

    def test_arms_come_in_turn(self):
        for name in ("plus", "less", "times", "then"):
            self.assertEqual(run(program_of((name, say(1), say(2))), 0)[1], [1, 2], name)
        self.assertEqual(run(program_of(("through", ("then", say(1), way(1)), say(2)), say(3)), 0)[1], [1, 2, 3])
        self.assertEqual(run(program_of(("call", 1, say(2)), say(3)), 0)[1], [2, 3])
        self.assertEqual(run(program_of(("if", say(1), say(2), say(3))), 0)[1], [1, 2])

    def test_a_look_comes_behind_all_arms(self):
        for name in ("plus", "less", "times"):
            self.assertEqual(run(program_of((name, way(0), say(5))), 0), (KIND, [5]), name)
        self.assertEqual(run(program_of(("through", ONE, say(5))), 0), (KIND, [5]))

    def test_but_of_if_the_first_arm_is_looked_at_first(self):
        self.assertEqual(run(program_of(("if", way(0), say(1), say(2))), 0), (KIND, []))


class RunTest(unittest.TestCase):
    def test_point_4_what_run_tells(self):
        result = run(program_of(num(3)), 0)
        self.assertIs(result.__class__, tuple)
        self.assertEqual(result, (("number", 3), []))
        self.assertIs(result[1].__class__, list)

    def test_point_4_the_numbers_that_there_are(self):
        self.assertEqual(run(program_of(ARGUMENT), 0)[0], ("number", 0))
        self.assertEqual(run(program_of(ARGUMENT), 999)[0], ("number", 999))
        for number in (-1, 1000, -1000, 5000):
            for asked in (run, traced):
                with self.assertRaises(BadNumber):
                    asked(program_of(ARGUMENT), number)

    def test_point_4_kind_where_a_number_is_wanted(self):
        for name in ("plus", "less", "times"):
            for arms in ((way(0), ONE), (ONE, way(0)), (way(0), way(0))):
                self.assertEqual(run(program_of((name, *arms)), 0), (KIND, []), (name, arms))
        self.assertEqual(run(program_of(("if", way(0), ONE, ONE)), 0), (KIND, []))
        self.assertEqual(run(program_of(("say", way(0))), 0), (KIND, []))

    def test_point_4_kind_of_through_a_number(self):
        for body in (ONE, num(0), ARGUMENT):
            self.assertEqual(run(program_of(("through", body, ONE)), 0), (KIND, []))

    def test_point_4_a_fault_in_a_called_function_ends_all(self):
        program = program_of(("then", ("call", 1, way(0)), say(1)), ("then", say(2), ("plus", ARGUMENT, ONE)))
        self.assertEqual(run(program, 0), (KIND, [2]))

    def test_point_4_deep_at_twelve_others(self):
        program = program_of(counting_down(0, num(7)))
        self.assertEqual(run(program, 12), (("number", 7), []))
        self.assertEqual(run(program, 13), (DEEP, []))
        self.assertEqual(run(program, 999), (DEEP, []))

    def test_point_4_deep_of_through(self):
        last = ("through", way(1), num(0))
        program = program_of(counting_down(0, last), ARGUMENT)
        self.assertEqual(run(program, 11)[0], ("number", 0))
        self.assertEqual(run(program, 12)[0], DEEP)

    def test_point_4_calls_that_are_over_make_nothing_deep(self):
        last = ("call", 1, ("call", 1, ("call", 1, num(3))))
        program = program_of(counting_down(0, last), ARGUMENT)
        self.assertEqual(run(program, 11)[0], ("number", 3))
        self.assertEqual(run(program, 12)[0], DEEP)

    def test_point_4_arms_come_ahead_of_deep(self):
        self.assertEqual(run(program_of(("call", 0, ("say", ARGUMENT))), 5), (DEEP, [5] * 13))
        self.assertEqual(run(program_of(("through", way(0), ("say", ARGUMENT))), 5), (DEEP, [5] * 13))

    def test_point_4_long_at_the_201st(self):
        self.assertEqual(calls_of(calling(200)), 200)
        self.assertEqual(run(calling(200, num(5)), 0), (("number", 5), []))
        self.assertEqual(run(calling(200, say(5), ("call", 1, say(6)), say(7)), 0), (LONG, [5, 6]))
        self.assertEqual(run(calling(200, ("through", way(1), say(6))), 0), (LONG, [6]))
        self.assertEqual(run(calling(201), 0), (LONG, []))

    def test_point_4_deep_ahead_of_long(self):
        last = ("call", 5, ARGUMENT)
        self.assertEqual(run(calling(188, last), 11), (("number", 6), []))
        self.assertEqual(calls_of(calling(188, last), 11), 200)
        self.assertEqual(run(calling(188, last), 12), (DEEP, []))
        self.assertEqual(run(calling(189, last), 11), (LONG, []))
        self.assertEqual(run(calling(189, last), 12), (LONG, []))

    def test_point_4_kind_ahead_of_deep(self):
        program = program_of(counting_down(0, ("through", ONE, say(4))))
        self.assertEqual(run(program, 12), (KIND, [4]))

    def test_point_4_kind_ahead_of_long(self):
        self.assertEqual(run(calling(200, ("through", ONE, say(4))), 0), (KIND, [4]))

    def test_point_4_what_was_said_ahead_of_a_fault(self):
        program = program_of(("then", say(1), ("then", say(2), ("then", ("say", way(0)), say(3)))))
        self.assertEqual(run(program, 0), (KIND, [1, 2]))


class TracedTest(unittest.TestCase):
    def test_point_5_without_calls(self):
        row = traced(program_of(("plus", ONE, ONE)), 0)
        self.assertIs(row.__class__, list)
        self.assertEqual(row, [0])

    def test_point_5_calls_within_one_another(self):
        program = program_of(("call", 1, ONE), ("call", 2, ONE), ARGUMENT)
        self.assertEqual(traced(program, 0), [0, 1, 2, 1, 0])

    def test_point_5_calls_behind_one_another(self):
        program = program_of(("plus", ("call", 1, ONE), ("through", way(2), ONE)), ARGUMENT, ARGUMENT)
        self.assertEqual(traced(program, 0), [0, 1, 0, 2, 0])

    def test_point_5_a_call_among_the_arms_of_a_call(self):
        program = program_of(("call", 1, ("call", 2, ONE)), ARGUMENT, ARGUMENT)
        self.assertEqual(traced(program, 0), [0, 2, 0, 1, 0])

    def test_point_5_a_function_that_calls_itself(self):
        self.assertEqual(traced(program_of(counting_down(0, ONE)), 2), [0, 0, 0, 0, 0])

    def test_point_5_only_what_is_done(self):
        program = program_of(("if", ARGUMENT, ("call", 1, ONE), ("call", 2, ONE)), ARGUMENT, ARGUMENT)
        self.assertEqual(traced(program, 1), [0, 1, 0])
        self.assertEqual(traced(program, 0), [0, 2, 0])

    def test_point_5_a_run_that_ends_in_a_fault(self):
        program = program_of(("call", 1, ONE), ("call", 2, ("call", 2, ONE)), ("say", ("if", ARGUMENT, ONE, ONE)))
        self.assertEqual(traced(program, 0), [0, 1, 2, 1, 2, 1, 0])
        fault = program_of(("call", 1, ONE), ("call", 2, ("call", 3, ONE)), ("say", way(0)), ARGUMENT)
        self.assertEqual(traced(fault, 0), [0, 1, 3, 1, 2])

    def test_point_5_a_call_that_is_too_deep_is_not_done(self):
        self.assertEqual(traced(program_of(counting_down(0, ONE)), 13), [0] * 13)

    def test_point_5_a_call_that_is_too_long_is_not_done(self):
        row = traced(calling(200, ("call", 5, ONE)), 0)
        self.assertEqual(len(row), 401)
        self.assertNotIn(5, row)
        self.assertEqual(row[-1], 0)

    def test_point_5_through_a_number_is_not_done(self):
        self.assertEqual(traced(program_of(("through", ONE, ("call", 1, ONE)), ARGUMENT), 0), [0, 1, 0])


if __name__ == "__main__":
    unittest.main()
