import unittest

from scatteredpieces import errors
from tests.plain import BAD_NUMBERS, BAD_TEXTS, HUGE

WITH_VALUE = [
    "BadText", "BadLetters", "BadReach", "BadLength", "BadNumber", "NoPiece", "NoPlace", "BadStep", "BadTimes",
    "OtherLetters", "BadSaying", "BadRows", "BadLets", "BadLetter", "BadSigns",
]
WITH_LINE = ["BadLine"]
WITH_NOTHING = ["OtherReach", "Nothing"]
ANY = BAD_TEXTS + BAD_NUMBERS + ["", "abc", 0, 1, 2, HUGE]


class ErrorTest(unittest.TestCase):
    def test_piece_error(self):
        self.assertEqual(errors.PieceError.__bases__, (ValueError,))

    def test_bases(self):
        for name in WITH_VALUE + WITH_LINE + WITH_NOTHING:
            with self.subTest(name=name):
                self.assertEqual(getattr(errors, name).__bases__, (errors.PieceError,))

    def test_these_and_no_others(self):
        own = [name for name, thing in vars(errors).items() if isinstance(thing, type)]
        self.assertEqual(sorted(own), sorted(["PieceError"] + WITH_VALUE + WITH_LINE + WITH_NOTHING))

    def check_argument(self, names, attribute):
        for name in names:
            kind = getattr(errors, name)
            for value in ANY:
                with self.subTest(name=name, value=value):
                    self.assertIs(getattr(kind(value), attribute), value)
                    self.assertIs(getattr(kind(**{attribute: value}), attribute), value)

    def test_value(self):
        self.check_argument(WITH_VALUE, "value")

    def test_line(self):
        self.check_argument(WITH_LINE, "line")

    def test_argument_is_needed_and_no_other_one_taken(self):
        for name in WITH_VALUE + WITH_LINE:
            kind = getattr(errors, name)
            with self.subTest(name=name):
                self.assertRaises(TypeError, kind)
                self.assertRaises(TypeError, kind, 1, 2)
        self.assertRaises(TypeError, errors.BadLine, value=1)
        self.assertRaises(TypeError, errors.BadText, line=1)

    def test_no_argument(self):
        for name in WITH_NOTHING:
            with self.subTest(name=name):
                error = getattr(errors, name)()
                self.assertIsInstance(error, errors.PieceError)
                self.assertEqual(vars(error), {})

    def test_argument_is_not_changed(self):
        value = [1, ["a"], {"b": ()}]
        self.assertIs(errors.BadText(value).value, value)
        self.assertEqual(value, [1, ["a"], {"b": ()}])

    def test_raised_and_caught(self):
        for name in WITH_VALUE + WITH_LINE:
            kind = getattr(errors, name)
            for base in (kind, errors.PieceError, ValueError):
                with self.subTest(name=name, base=base):
                    with self.assertRaises(base):
                        raise kind(None)
        for name in WITH_NOTHING:
            for base in (errors.PieceError, ValueError):
                with self.subTest(name=name, base=base):
                    with self.assertRaises(base):
                        raise getattr(errors, name)()


if __name__ == "__main__":
    unittest.main()
