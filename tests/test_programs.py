"""Points 2 and 3: what a program is, and how the words of a body are numbered."""

import unittest

from helpers import ARGUMENT, ONE, body_of, nested, num, program_of, way
from overlayhall.errors import BadProgram
from overlayhall.plain import run, traced
from overlayhall.programs import numbered
from overlayhall.words import words_of

GOOD_BODIES = [
    ("num", 0),
    ("num", 99),
    ("argument",),
    ("way", 0),
    ("plus", ONE, ARGUMENT),
    ("less", ONE, ARGUMENT),
    ("times", ONE, ARGUMENT),
    ("if", ONE, ONE, way(0)),
    ("then", way(0), ONE),
    ("say", ONE),
    ("if", num(0), ("call", 0, ONE), ONE),
    ("if", num(0), ("through", way(0), ONE), ONE),
]

BAD_BODIES = [
    (),
    "num",
    7,
    (7,),
    ((),),
    (("num", 1),),
    ("",),
    ("Num", 1),
    ("minus", ONE, ONE),
    ("num",),
    ("num", -1),
    ("num", 100),
    ("num", "1"),
    ("num", (1,)),
    ("num", ONE),
    ("num", 1, 1),
    ("num", 1, ONE),
    ("argument", 0),
    ("argument", ONE),
    ("way",),
    ("way", -1),
    ("way", 1),
    ("way", "0"),
    ("way", ARGUMENT),
    ("way", 0, ONE),
    ("plus", ONE),
    ("plus", ONE, 1),
    ("plus", 1, ONE),
    ("plus", ONE, ONE, ONE),
    ("less", ONE),
    ("less", ONE, ONE, ONE),
    ("times", ONE),
    ("times", ONE, ONE, ONE),
    ("if", ONE, ONE),
    ("if", ONE, ONE, ONE, ONE),
    ("if", ONE, ONE, ("if",)),
    ("then", ONE),
    ("then", ONE, ONE, ONE),
    ("then", ONE, "argument"),
    ("say",),
    ("say", 1),
    ("say", ONE, ONE),
    ("call",),
    ("call", 0),
    ("call", ONE),
    ("call", -1, ONE),
    ("call", 1, ONE),
    ("call", ONE, ONE),
    ("call", "0", ONE),
    ("call", 0, 0),
    ("call", 0, ONE, ONE),
    ("through", way(0)),
    ("through", 0, ONE),
    ("through", way(0), ONE, ONE),
    ("through", way(1), ONE),
    ("say", ("plus", ONE, ("num", 100))),
]


class ProgramsTest(unittest.TestCase):
    def refused_with(self, program):
        with self.assertRaises(BadProgram) as caught:
            run(program, 0)
        with self.assertRaises(BadProgram) as again:
            traced(program, 0)
        self.assertEqual(again.exception.function, caught.exception.function)
        return caught.exception.function

    def test_point_2_one_function_and_eight(self):
        self.assertEqual(run(program_of(num(3)), 0)[0], ("number", 3))
        self.assertEqual(run(program_of(("call", 7, ONE), *[ARGUMENT] * 7), 0)[0], ("number", 1))

    def test_point_2_no_function_and_nine(self):
        self.assertEqual(self.refused_with(()), 0)
        self.assertEqual(self.refused_with(program_of(*[ARGUMENT] * 9)), 8)
        self.assertEqual(self.refused_with(program_of(*[ARGUMENT] * 10)), 8)

    def test_point_2_sizes(self):
        for size in (1, 8):
            self.assertEqual(run(((size, num(2)),), 0)[0], ("number", 2))
        for size in (-1, 0, 9, "1", (1,), ()):
            self.assertEqual(self.refused_with(((1, ARGUMENT), (size, ARGUMENT))), 1)

    def test_point_2_what_is_no_function(self):
        for function in ((), 1, "1", (1,), (ARGUMENT,), (1, ARGUMENT, 1), (ARGUMENT, 1), (1, 1), (1, "argument"), ARGUMENT):
            self.assertEqual(self.refused_with((function,)), 0, function)
            self.assertEqual(self.refused_with(((1, ARGUMENT), function)), 1, function)

    def test_point_2_bodies_that_can_be(self):
        for body in GOOD_BODIES:
            self.assertNotEqual(run(program_of(body), 0)[0][0], "fault", body)

    def test_point_2_bodies_that_can_not_be(self):
        for body in BAD_BODIES:
            self.assertEqual(self.refused_with(program_of(body)), 0, body)

    def test_point_2_true_and_false_are_no_numbers(self):
        self.assertEqual(self.refused_with(program_of(("num", True))), 0)
        self.assertEqual(self.refused_with(program_of(("way", False))), 0)
        self.assertEqual(self.refused_with(((True, ARGUMENT),)), 0)

    def test_point_2_ways_and_calls_lead_to_functions_that_there_are(self):
        self.assertEqual(run(program_of(way(1), ARGUMENT), 0)[0], ("way", 1))
        self.assertEqual(self.refused_with(program_of(way(2), ARGUMENT)), 0)
        self.assertEqual(run(program_of(("call", 1, ONE), ARGUMENT), 0)[0], ("number", 1))
        self.assertEqual(self.refused_with(program_of(("call", 2, ONE), ARGUMENT)), 0)

    def test_point_2_words_that_are_never_done_are_judged_too(self):
        self.assertEqual(self.refused_with(program_of(("if", num(0), ("num", 100), ONE))), 0)
        self.assertEqual(self.refused_with(program_of(ONE, ("num", 100))), 1)

    def test_point_2_forty_words_and_forty_one(self):
        self.assertEqual(len(words_of(body_of(40))), 40)
        self.assertEqual(run(program_of(body_of(40)), 0)[0], ("number", 0))
        self.assertEqual(self.refused_with(program_of(body_of(41))), 0)

    def test_point_2_forty_words_are_those_of_one_body(self):
        program = program_of(body_of(40), body_of(40))
        self.assertEqual(run(program, 0)[0], ("number", 0))

    def test_point_2_within_six_others_and_seven(self):
        self.assertEqual(run(program_of(nested(6)), 0), (("number", 1), [1] * 6))
        self.assertEqual(self.refused_with(program_of(nested(7))), 0)
        self.assertEqual(run(program_of(("plus", ONE, nested(5))), 0)[0], ("number", 2))
        self.assertEqual(self.refused_with(program_of(("plus", ONE, nested(6)))), 0)
        self.assertEqual(self.refused_with(program_of(nested(100000))), 0)

    def test_point_2_the_first_that_can_not_be_is_told(self):
        bad = ("num", 100)
        self.assertEqual(self.refused_with(program_of(ONE, ONE, bad, bad)), 2)
        self.assertEqual(self.refused_with(program_of(bad, ONE, bad)), 0)
        self.assertEqual(self.refused_with(program_of(*[ONE] * 7, bad)), 7)
        self.assertEqual(self.refused_with(program_of(*[ONE] * 3, bad, *[ONE] * 5)), 3)
        self.assertEqual(self.refused_with(program_of(*[ONE] * 8, bad)), 8)

    def test_point_3_words_are_numbered_as_they_stand(self):
        body = ("if", ("say", ARGUMENT), ("call", 1, ("plus", num(2), num(3))), ("through", way(4), num(5)))
        self.assertEqual(words_of(body), [
            ("if", None, (1, 3, 7)),
            ("say", None, (2,)),
            ("argument", None, ()),
            ("call", 1, (4,)),
            ("plus", None, (5, 6)),
            ("num", 2, ()),
            ("num", 3, ()),
            ("through", None, (8, 9)),
            ("way", 4, ()),
            ("num", 5, ()),
        ])

    def test_point_3_each_function_numbers_from_0(self):
        program = program_of(("call", 1, ARGUMENT), ("say", ("through", way(0), ONE)))
        calls = [
            (function, number)
            for function, words in enumerate(numbered(program))
            for number, (name, _, _) in enumerate(words)
            if name in ("call", "through")
        ]
        self.assertEqual(calls, [(0, 0), (1, 1)])


if __name__ == "__main__":
    unittest.main()
