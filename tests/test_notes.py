"""Point 17: programs as texts."""

import copy
import unittest

from helpers import ARGUMENT, ONE, body_of, nested, num, program_of, sized, way
from overlayhall.errors import BadProgram, BadText
from overlayhall.notes import read, written
from reference import some_programs

# Each word there is, and what is written of it.
WORDS = (
    (("num", 0), "num 0"),
    (("num", 7), "num 7"),
    (("num", 10), "num 10"),
    (("num", 99), "num 99"),
    (ARGUMENT, "argument"),
    (("way", 1), "way 1"),
    (("plus", ONE, num(2)), "plus num 1 num 2"),
    (("less", ONE, num(2)), "less num 1 num 2"),
    (("times", ONE, num(2)), "times num 1 num 2"),
    (("if", ONE, num(2), num(3)), "if num 1 num 2 num 3"),
    (("then", ONE, num(2)), "then num 1 num 2"),
    (("say", ONE), "say num 1"),
    (("call", 1, ARGUMENT), "call 1 argument"),
    (("through", way(0), num(2)), "through way 0 num 2"),
    (("if", ARGUMENT, ("call", 1, ("less", ARGUMENT, ONE)), num(0)),
     "if argument call 1 less argument num 1 num 0"),
    (("plus", ("plus", ONE, num(2)), ("times", num(3), num(4))), "plus plus num 1 num 2 times num 3 num 4"),
    (("through", ("if", ARGUMENT, way(0), way(1)), ("call", 0, ("say", num(20)))),
     "through if argument way 0 way 1 call 0 say num 20"),
)


class WrittenTest(unittest.TestCase):
    def test_point_17_the_kind_of_value(self):
        self.assertIs(written(program_of(ONE)).__class__, str)

    def test_point_17_the_row_of_the_document(self):
        body = ("if", ARGUMENT, ("call", 1, ("less", ARGUMENT, ONE)), num(0))
        program = ((3, body), (1, ARGUMENT))
        self.assertEqual(written(program), "3 if argument call 1 less argument num 1 num 0\n1 argument")

    def test_point_17_each_word(self):
        for body, text in WORDS:
            self.assertEqual(written(((4, body), (2, ONE))), "4 " + text + "\n2 num 1")
            self.assertEqual(written(((2, ONE), (8, body))), "2 num 1\n8 " + text)

    def test_point_17_one_function_and_eight(self):
        self.assertEqual(written(((8, ARGUMENT),)), "8 argument")
        self.assertEqual(
            written(sized(1, 2, 3, 4, 5, 6, 7, 8)),
            "1 argument\n2 argument\n3 argument\n4 argument\n5 argument\n6 argument\n7 argument\n8 argument",
        )
        self.assertEqual(written(program_of(way(7), *[num(n) for n in range(7)])).split("\n")[0], "1 way 7")

    def test_point_17_what_is_no_program(self):
        for program, function in (
            ((), 0), (program_of(ONE, way(2)), 1), (((0, ONE),), 0), (program_of(ONE, ONE, num(100)), 2),
            (sized(*[1] * 9), 8), (program_of(nested(7)), 0), (program_of(ONE, body_of(41)), 1),
        ):
            with self.assertRaises(BadProgram) as caught:
                written(program)
            self.assertEqual(caught.exception.function, function)


class ReadTest(unittest.TestCase):
    def test_point_17_the_row_of_the_document(self):
        self.assertEqual(
            read("3 if argument call 0 less argument num 1 num 0"),
            ((3, ("if", ARGUMENT, ("call", 0, ("less", ARGUMENT, ONE)), num(0))),),
        )

    def test_point_17_each_word(self):
        for body, text in WORDS:
            self.assertEqual(read("4 " + text + "\n2 num 1"), ((4, body), (2, ONE)))
            self.assertEqual(read("2 num 1\n8 " + text), ((2, ONE), (8, body)))

    def same_kinds(self, value, other):
        self.assertIs(value.__class__, other.__class__)
        self.assertEqual(value, other)
        if isinstance(value, tuple):
            for inner, other_inner in zip(value, other):
                self.same_kinds(inner, other_inner)

    def test_point_17_what_is_written_is_read_to_the_same(self):
        programs = [program_of(*[ARGUMENT] * 8), program_of(nested(6)), program_of(body_of(40), way(0))]
        for functions in range(1, 9):
            programs += some_programs(170 + functions, 25, functions, 40)
        for program in programs:
            text = written(program)
            self.assertEqual(len(text.split("\n")), len(program))
            self.same_kinds(read(text), program)
            self.assertEqual(written(read(text)), text)

    def test_point_17_as_great_as_may_be(self):
        self.assertEqual(read("1 " + "say " * 6 + "num 1"), program_of(nested(6)))
        self.assertEqual(read(written(program_of(body_of(40)))), program_of(body_of(40)))


class BadTextTest(unittest.TestCase):
    def refused(self, text, row, place):
        with self.assertRaises(BadText, msg=repr(text)) as caught:
            read(text)
        refusal = caught.exception
        self.assertEqual((refusal.row, refusal.place), (row, place), repr(text))
        self.assertEqual((refusal.row.__class__, refusal.place.__class__), (int, int))

    def test_point_17_a_word_that_there_is_not(self):
        self.refused("1 minus num 1 num 2", 0, 1)
        self.refused("1 plus num 1 minus", 0, 4)
        self.refused("1 plus nun 1 num 2", 0, 2)
        self.refused("1 Num 1", 0, 1)
        self.refused("1 arguments", 0, 1)
        self.refused("1 say numargument", 0, 2)
        self.refused("1 argument\n1 say *", 1, 2)
        self.refused("one argument", 0, 0)
        # Only a blank and a line end part words.
        self.refused("1,argument", 0, 0)
        self.refused("1 num,1", 0, 1)
        self.refused("1 (argument)", 0, 1)

    def test_point_17_a_number_in_the_place_of_a_word(self):
        self.refused("1 1", 0, 1)
        self.refused("1 plus 1 2", 0, 2)
        self.refused("1 say 0", 0, 2)
        self.refused("1 call 0 0", 0, 3)

    def test_point_17_a_word_in_the_place_of_a_number(self):
        self.refused("argument", 0, 0)
        self.refused("num 1", 0, 0)
        self.refused("1 num num", 0, 2)
        self.refused("1 num argument", 0, 2)
        self.refused("1 way argument", 0, 2)
        self.refused("1 call argument", 0, 2)
        self.refused("1 call call 0 argument", 0, 2)
        self.refused("1 through 0 num 1", 0, 2)

    def test_point_17_two_blanks_together(self):
        self.refused("1  argument", 0, 1)
        self.refused("1 say  argument", 0, 2)
        self.refused("1 num  1", 0, 2)
        self.refused("1 call 0  argument", 0, 3)
        self.refused("1 plus num 1  num 2", 0, 4)
        self.refused("1 argument\n1  argument", 1, 1)
        self.refused("1 argument  ", 0, 2)

    def test_point_17_a_blank_at_the_end_of_a_row(self):
        self.refused("1 argument ", 0, 2)
        self.refused("1 num 1 ", 0, 3)
        self.refused("1 ", 0, 1)
        self.refused("1 num ", 0, 2)
        self.refused("1 say ", 0, 2)
        self.refused("1 argument \n1 argument", 0, 2)
        self.refused("1 argument\n1 argument ", 1, 2)

    def test_point_17_a_blank_at_the_beginning_of_a_row(self):
        self.refused(" 1 argument", 0, 0)
        self.refused("1 argument\n 1 argument", 1, 0)
        self.refused(" ", 0, 0)
        self.refused("  ", 0, 0)

    def test_point_17_numbers_that_are_none(self):
        for word in (
            "100", "999", "1000", "00", "01", "09", "000", "010", "-1", "+1", "-0", "+0", "1.", "1.0", "1_0", "_1",
            "0x1", "1e", "a", "1a", "a1", "", "O", "'1'", "(1)", "-", "+", "1-", "5,",
        ):
            self.refused(word + " argument", 0, 0)
            self.refused("1 argument\n" + word + " argument", 1, 0)
            self.refused("1 num " + word, 0, 2)
            self.refused("1 way " + word, 0, 2)
            self.refused("1 call " + word + " argument", 0, 2)
            self.refused("1 if num 1 num " + word + " num 2", 0, 5)

    def test_point_17_words_behind_the_end_of_a_body(self):
        self.refused("1 argument argument", 0, 2)
        self.refused("1 argument 1", 0, 2)
        self.refused("1 num 1 2", 0, 3)
        self.refused("1 num 1 num 2", 0, 3)
        self.refused("1 plus num 1 num 2 num 3", 0, 6)
        self.refused("1 call 0 argument argument", 0, 4)
        self.refused("1 argument minus 100", 0, 2)
        self.refused("1 argument 1 argument", 0, 2)
        self.refused("1 argument\n1 argument argument\n1 argument", 1, 2)

    def test_point_17_words_that_lack_at_the_end_of_a_row(self):
        for text, place in (
            ("1", 1), ("1 num", 2), ("1 way", 2), ("1 call", 2), ("1 call 0", 3), ("1 say", 2), ("1 plus", 2),
            ("1 plus num", 3), ("1 plus num 1", 4), ("1 less argument", 3), ("1 times argument", 3), ("1 if", 2),
            ("1 if argument", 3), ("1 if argument argument", 4), ("1 then argument", 3), ("1 through way 0", 4),
            ("1 plus plus argument argument", 5), ("1 say say say", 4), ("1 if argument call 0", 5), ("0", 1), ("99", 1),
        ):
            self.refused(text, 0, place)
            self.refused(text + "\n1 argument", 0, place)
            self.refused("1 argument\n" + text, 1, place)

    def test_point_17_no_arm_is_taken_from_the_next_row(self):
        self.refused("1 plus num 1\nnum 2", 0, 4)
        self.refused("1\nargument", 0, 1)

    def test_point_17_the_empty_text_and_empty_rows(self):
        self.refused("", 0, 0)
        self.refused("\n", 0, 0)
        self.refused("1 argument\n", 1, 0)
        self.refused("1 argument\n\n", 1, 0)
        self.refused("\n1 argument", 0, 0)
        self.refused("1 argument\n\n1 argument", 1, 0)
        self.refused("1 argument\n1 argument\n", 2, 0)

    def test_point_17_the_first_word_of_several(self):
        self.refused("1 minus\nx argument\n", 0, 1)
        self.refused("1 plus argument\n100 argument", 0, 3)
        self.refused("1 argument\n1 num 01 02\n\n", 1, 2)
        self.refused("01 nun 100 ", 0, 0)

    def test_point_17_ahead_of_a_program_that_is_none(self):
        # Rows ahead could never be a function's.
        self.refused("0 argument\n1 argumen", 1, 1)
        self.refused("99 way 99\n1 call 50 argument\n1 num 100", 2, 2)
        self.refused("1 " + "say " * 9 + "nun 1", 0, 10)
        self.refused("\n".join(["1 argument"] * 9) + "\n", 9, 0)
        self.refused("\n".join(["1 argument"] * 8) + "\n1 argument argument", 8, 2)


class BadProgramTest(unittest.TestCase):
    def refused(self, text, function):
        with self.assertRaises(BadProgram, msg=repr(text)) as caught:
            read(text)
        self.assertEqual(caught.exception.function, function, repr(text))

    def test_point_17_sizes(self):
        for size in ("0", "9", "10", "99"):
            self.refused(size + " argument", 0)
            self.refused("8 argument\n" + size + " argument\n0 argument", 1)

    def test_point_17_ways_and_calls_to_functions_that_there_are_not(self):
        for number in ("2", "8", "9", "10", "99"):
            self.refused("1 way " + number + "\n1 argument", 0)
            self.refused("1 argument\n1 way " + number, 1)
            self.refused("1 call " + number + " argument\n1 way 99", 0)
            self.refused("1 argument\n1 if num 0 call " + number + " argument argument", 1)

    def test_point_17_every_number_may_stand(self):
        for number in range(100):
            self.assertEqual(read("1 num " + str(number)), program_of(num(number)))

    def test_point_17_bodies_that_are_too_deep_or_too_long(self):
        self.refused("1 " + "say " * 7 + "num 1", 0)
        self.refused("1 argument\n1 " + "say " * 7 + "argument", 1)
        self.refused("1 argument\n1 argument\n1 " + "say " * 5000 + "argument", 2)
        words = ["num 0"] * 20
        while len(words) > 1:
            words = [" ".join(["plus"] + words[at:at + 2]) for at in range(0, len(words) - 1, 2)] + words[
                len(words) - len(words) % 2:
            ]
        # 20 numbers and 19 words that join two of them, none within more than five: one more word may stand, not two.
        self.assertEqual(len(read("1 say " + words[0])), 1)
        self.refused("1 plus num 1 " + words[0], 0)
        self.refused("1 argument\n1 plus num 1 " + words[0], 1)

    def test_point_17_nine_rows(self):
        self.assertEqual(len(read("\n".join(["1 argument"] * 8))), 8)
        self.refused("\n".join(["1 argument"] * 9), 8)
        self.refused("\n".join(["1 argument"] * 12), 8)
        self.refused("\n".join(["1 argument"] * 4 + ["9 argument"] + ["1 argument"] * 4), 4)


class HeadTest(unittest.TestCase):
    def test_point_1_the_same_is_told_again(self):
        program = some_programs(179, 1, 4, 40)[0]
        handed = copy.deepcopy(program)
        self.assertEqual(written(program), written(program))
        self.assertEqual(read(written(program)), read(written(program)))
        self.assertEqual(program, handed)

    def test_point_1_what_is_refused_changes_nothing(self):
        for _ in range(2):
            with self.assertRaises(BadText):
                read("1 argument\n1 num")
            with self.assertRaises(BadProgram):
                read("9 argument")
            self.assertEqual(read("1 argument\n1 num 1"), program_of(ARGUMENT, ONE))


if __name__ == "__main__":
    unittest.main()
