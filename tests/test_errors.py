"""The interface: the error classes, and what is told of each."""

import unittest

from overlayhall import errors

NAMES = [
    "BadProgram", "BadNumber", "BadTree", "BadRoom", "BadFunction", "BadPaper",
    "NotShown", "BadPlace", "BadTrace", "TooMany", "BadText",
]


class ErrorsTest(unittest.TestCase):
    def test_a_refusal_is_a_value_error(self):
        self.assertTrue(issubclass(errors.HallError, ValueError))

    def test_each_class_is_a_refusal_and_none_of_the_others(self):
        classes = [getattr(errors, name) for name in NAMES]
        for one in classes:
            self.assertTrue(issubclass(one, errors.HallError), one)
            self.assertTrue(issubclass(one, ValueError), one)
            for other in classes:
                self.assertEqual(issubclass(one, other), one is other, (one, other))

    def test_each_class_is_defined_in_the_file(self):
        for name in ["HallError"] + NAMES:
            self.assertEqual(getattr(errors, name).__module__, "overlayhall.errors")

    def test_a_bad_program_tells_its_function(self):
        self.assertEqual(errors.BadProgram(3).function, 3)

    def test_a_bad_text_tells_its_row_and_place(self):
        refusal = errors.BadText(1, 2)
        self.assertEqual((refusal.row, refusal.place), (1, 2))


if __name__ == "__main__":
    unittest.main()
