import unittest

from scatteredpieces.errors import BadLine, BadSaying, BadSigns
from scatteredpieces.kinds import Kind
from scatteredpieces.machines import Machine
from scatteredpieces.sayings import is_saying
from scatteredpieces.signs import format_machine, format_saying, read_machine, read_saying
from tests.plain import (
    ALPHABET, BAD_NUMBERS, BAD_TEXTS, HUGE, OTHER_KINDS, caught, drawn_parts, nested, small_parts, some_sayings,
)

SOME = some_sayings()
WRITTEN = [
    (("has", ""), "has"), (("has", "a"), "has a"), (("has", "ab"), "has ab"), (("has", "has"), "has has"),
    (("has", "not"), "has not"), (("has", "and"), "has and"), (("has", ALPHABET), "has " + ALPHABET),
    (("not", ("has", "a")), "not (has a)"), (("not", ("has", "")), "not (has)"),
    (("not", ("not", ("has", "ab"))), "not (not (has ab))"),
    (("and", ("has", "a"), ("has", "bc")), "(has a) and (has bc)"),
    (("or", ("has", "a"), ("has", "bc")), "(has a) or (has bc)"), (("or", ("has", ""), ("has", "")), "(has) or (has)"),
    (("and", ("has", "and"), ("has", "or")), "(has and) and (has or)"),
    (("and", ("has", "a"), ("not", ("has", "bc"))), "(has a) and (not (has bc))"),
    (("or", ("and", ("has", "a"), ("has", "b")), ("not", ("or", ("has", "c"), ("has", "")))),
     "((has a) and (has b)) or (not ((has c) or (has)))"),
]


def plain_format(saying):
    if saying[0] == "has":
        return ("has " + saying[1]).strip()
    if saying[0] == "not":
        return f"not ({plain_format(saying[1])})"
    return f"({plain_format(saying[1])}) {saying[0]} ({plain_format(saying[2])})"


class FormatSayingTest(unittest.TestCase):
    def test_example(self):
        self.assertEqual(format_saying(("and", ("has", "a"), ("not", ("has", "bc")))), "(has a) and (not (has bc))")

    def test_ordinary(self):
        for saying, signs in WRITTEN:
            with self.subTest(signs=signs):
                self.assertEqual(format_saying(saying), signs)
                self.assertEqual(format_saying(saying=saying), signs)

    def test_plainly(self):
        for saying in SOME:
            self.assertEqual(format_saying(saying), plain_format(saying))

    def test_bad_saying(self):
        for value in BAD_TEXTS + BAD_NUMBERS + [
            "", "has", "has a", 0, ("has",), ("has", "A"), ("has", "a", "b"), ["has", "a"], ("not", "a"), ("nor", ()),
            ("and", ("has", "a")), ("not", ("has", 1)), nested("not", 11), nested("left", 11), Kind("a", 1),
            ("or", ("has", "a"), ("has", "a"), ("has", "a")),
        ]:
            with self.subTest(value=value):
                self.assertIs(caught(BadSaying, format_saying, value).value, value)
                self.assertIs(caught(BadSaying, format_saying, saying=value).value, value)


class ReadSayingTest(unittest.TestCase):
    def test_example(self):
        self.assertEqual(read_saying("has"), ("has", ""))

    def test_ordinary(self):
        for saying, signs in WRITTEN:
            with self.subTest(signs=signs):
                self.assertEqual(read_saying(signs), saying)
                self.assertEqual(read_saying(signs=signs), saying)

    def test_what_is_read_is_written_the_same(self):
        for saying in SOME:
            signs = format_saying(saying)
            self.assertEqual(read_saying(signs), saying)
            self.assertIs(is_saying(read_saying(signs)), True)
            self.assertEqual(format_saying(read_saying(signs)), signs)

    def test_ten_levels(self):
        for word in ("not", "and", "or", "left", "right"):
            for levels in range(1, 11):
                saying = nested(word, levels)
                self.assertEqual(read_saying(format_saying(saying)), saying)
            for levels in (11, 12, 30, 400):
                signs = plain_format(nested(word, levels))
                self.assertIs(caught(BadSigns, read_saying, signs).value, signs)

    def test_five_hundred_parentheses(self):
        for many in (10, 11, 100, 500, 3000):
            for signs in (
                "not (" * many + "has a" + ")" * many, "(" * many, "not (" * many, "(" * many + "has a" + ")" * many,
                ")" * many, "()" * many, "(" * many + "has a" + ") and (has b)" * many, "has a" + ")" * many,
                "(has a) and (" * many + "has b" + ")" * many, "not " * many + "(has a)",
            ):
                self.assertIs(caught(BadSigns, read_saying, signs).value, signs)

    def test_near_misses(self):
        for signs in [
            "", " ", "a", "ab", "has ", " has", "has  ", "has  a", " has a", "has a ", "has\ta", "has\n", "has a\n",
            "\nhas a", "has A", "Has a", "HAS", "hasa", "ha", "haso", "has ab c", "has a b", "has has a", "has a has b",
            "has 1", "has -", "has (a)", "(has a)", "((has a))", "has()", "has ()", "not", "not ", "not has",
            "not has a",
            "not(has a)", "not  (has a)", "not ( has a)", "not (has a )", "not (has a", "not has a)", "not (has a))",
            "not ((has a))", "not (has a) ", " not (has a)", "not (has a)(has b)", "not (has a) (has b)", "not ()",
            "Not (has a)", "nothas a", "nor (has a)", "not (has )", "not (has  a)", "not [has a]", "not (a)",
            "not (not)",
            "not not (has a)", "not (not has a)", "not (has a) and (has b)", "(not (has a)) and has b",
            "has a and has b", "has a and (has b)", "(has a) and has b", "(has a) and", "(has a) and ",
            "(has a)and (has b)",
            "(has a) and(has b)", "(has a)  and (has b)", "(has a) and  (has b)", "( has a) and (has b)",
            "(has a ) and (has b)", "(has a) and ( has b)", "(has a) and (has b )", "(has a) And (has b)",
            "(has a) AND (has b)", "(has a) an (has b)", "(has a) ando (has b)", "(has a) xor (has b)",
            "(has a) not (has b)", "(has a) (has b)", "(has a) and (has b) ", " (has a) and (has b)",
            "(has a) and (has b))", "((has a) and (has b)", "((has a) and (has b))", "(has a) and (has b) and (has c)",
            "(has a) and or (has b)", "(has a) or (has b) or (has c)", "(has a) orr (has b)", "(has a) o (has b)",
            "(has a) and (has b)\n", "(has a)\nand (has b)", "(has a)\tor (has b)", "() and ()", "and (has a)",
            "or", "and", "(and) (has a)", "() or (has a)", "(has a) or ()", "(has a), (has b)", "'has a'", "has \"a\"",
            "(has a)  or (has b)", "(has a) or  (has b)", "(has a) or", "(has a) o", "(", ")", "()", "((", "not (",
        ]:
            with self.subTest(signs=signs):
                self.assertIs(caught(BadSigns, read_saying, signs).value, signs)
                self.assertIs(caught(BadSigns, read_saying, signs=signs).value, signs)

    def test_one_sign_changed(self):
        # What is read although a sign is changed, put in or left out is a text of another saying.
        read = 0
        for _, signs in WRITTEN:
            changed = [signs[:at] + sign + signs[at:] for at in range(len(signs) + 1) for sign in " ()ahA1\n"]
            changed += [signs[:at] + signs[at + 1:] for at in range(len(signs))]
            changed += [signs[:at] + sign + signs[at + 1:] for at in range(len(signs)) for sign in " ()orZ~"]
            for other in changed:
                try:
                    saying = read_saying(other)
                except BadSigns as error:
                    self.assertIs(error.value, other)
                else:
                    read += 1
                    self.assertIs(is_saying(saying), True)
                    self.assertEqual(plain_format(saying), other)
        self.assertGreater(read, 100)

    def test_values_of_any_kind(self):
        for value in OTHER_KINDS + [0, 1, -1, HUGE, ("has", "a"), ["has a"], ("has a",), {"has": "a"}, Kind("a", 1)]:
            with self.subTest(value=value):
                self.assertIs(caught(BadSigns, read_saying, value).value, value)

    def test_value_is_not_changed(self):
        value = ["has a", {"has": ["a"]}]
        self.assertIs(caught(BadSigns, read_saying, value).value, value)
        self.assertEqual(value, ["has a", {"has": ["a"]}])


class FormatMachineTest(unittest.TestCase):
    def test_example(self):
        machine = Machine("ab", [(1, 0), (1, 1)], [1])
        self.assertEqual(format_machine(machine).split("\n"), ["letters ab", "1 0", "1 1 lets"])

    def test_ordinary(self):
        for machine, signs in [
            (Machine("a", [(0,)], []), "letters a\n0"), (Machine("a", [(0,)], [0]), "letters a\n0 lets"),
            (Machine("xyz", [(0, 1, 0), (1, 1, 0)], [1, 0]), "letters xyz\n0 1 0 lets\n1 1 0 lets"),
            (Machine(ALPHABET, [(0,) * 26], []), "letters " + ALPHABET + "\n" + " ".join("0" * 26)),
            (Machine("b", [(place,) for place in range(12)], [11, 2]),
             "letters b\n0\n1\n2 lets\n3\n4\n5\n6\n7\n8\n9\n10\n11 lets"),
        ]:
            with self.subTest(signs=signs):
                self.assertEqual(format_machine(machine), signs)
                self.assertEqual(format_machine(machine=machine), signs)
                self.assertTrue(read_machine(signs) == machine)


class ReadMachineTest(unittest.TestCase):
    def test_example(self):
        self.assertEqual(caught(BadLine, read_machine, "letters ab\n1 0").line, 3)

    def test_what_is_written_is_read_back(self):
        for letters, rows, lets in small_parts():
            machine = Machine(letters, rows, lets)
            signs = format_machine(machine)
            read = read_machine(signs=signs)
            self.assertIs(type(read), Machine)
            self.assertTrue(read == machine)
            self.assertEqual([read.letters, read.rows, read.lets], [letters, rows, lets])
            self.assertEqual(format_machine(read), signs)

    def test_six_hundred_places(self):
        for letters in ("a", "ab", "abcdef", ALPHABET):
            rows, lets = drawn_parts(letters, 600, 5, "any")
            machine = Machine(letters, rows, lets)
            self.assertTrue(read_machine(format_machine(machine)) == machine)
            signs = format_machine(machine).split("\n")
            signs[300] += " "
            self.assertEqual(caught(BadLine, read_machine, "\n".join(signs)).line, 301)

    def test_lines(self):
        for signs, line in [
            ("", 1), ("\n", 1), (" ", 1), ("letters", 1), ("letters ", 1), ("letters  ab", 1), ("letters ab ", 1),
            (" letters ab", 1), ("letters ba", 1), ("letters aa", 1), ("letters aB", 1), ("Letters ab", 1),
            ("letter ab", 1), ("lettersab", 1), ("letters a b", 1), ("letters\tab", 1), ("letters ab1", 1), ("ab", 1),
            ("letters letters ab\n0 0", 1), ("0 0", 1), ("\nletters ab\n0 0", 1), ("letters ab", 2),
            ("letters ab\n", 2),
            ("letters ab\n\n0 0", 2), ("letters ab\n0", 2), ("letters ab\n0 0 0", 2), ("letters ab\n0 0\n", 3),
            ("letters ab\n0 0\n\n", 3), ("letters ab\n0 0\n\n0 0", 3), ("letters ab\n1 0", 3), ("letters ab\n1 0\n", 3),
            ("letters ab\n2 0\n0 0", 4), ("letters ab\n2 0\n0 0\n", 4), ("letters ab\n2 0\n0", 3),
            ("letters a\n0 0", 2),
            ("letters ab\n0 0 let", 2), ("letters ab\n0 0 Lets", 2), ("letters ab\n0 0  lets", 2),
            ("letters ab\n0 0 lets ", 2), ("letters ab\n0 0 lets lets", 2), ("letters ab\nlets 0 0", 2),
            ("letters ab\n0 lets", 2), ("letters ab\n0 lets 0", 2), ("letters ab\nlets", 2), ("letters ab\n lets", 2),
            ("letters ab\n0  0", 2), ("letters ab\n 0 0", 2), ("letters ab\n0 0 ", 2), ("letters ab\n0\t0", 2),
            ("letters ab\n00 0", 2), ("letters ab\n0 01", 2), ("letters ab\n-1 0", 2), ("letters ab\n+0 0", 2),
            ("letters ab\n-0 0", 2), ("letters ab\n0 0.0", 2), ("letters ab\n0 a", 2), ("letters ab\n0 1_0", 2),
            ("letters ab\n0 0lets", 2), ("letters ab\n0,0", 2), ("letters ab\n0 0\n0 0\n0 0 0", 4),
            ("letters ab\n9 9\n0 0\nx", 4), ("letters ab\n1 1\n2 2\n3 3\n4 4", 6), ("letters ab\n0 4", 3),
            ("letters ab\n0 0\nlets", 3), ("letters ab\n0 0\nletters ab", 3), ("letters a\nlets", 2),
            ("letters a\n lets", 2),
            ("letters a\n0 lets\n1 lets\n3", 5), ("letters a\n" + "9" * 1000, 3),
            ("letters a\n" + "1" * 1000 + "\n0", 4),
            ("letters a\n0\n" + "7" * 1000 + " lets", 4), ("letters a\n" + "0" * 1000, 2),
            ("letters a\n0" + "1" * 999, 2),
            ("letters ab\n" + "9" * 1000 + " " + "8" * 1000 + "\n0 x", 3), ("letters a\n1" + "0" * 999 + "\n\n", 3),
            ("letters a\n" + "8" * 9000, 3),
        ]:
            with self.subTest(signs=signs[:60]):
                self.assertEqual(caught(BadLine, read_machine, signs).line, line)
                self.assertEqual(caught(BadLine, read_machine, signs=signs).line, line)

    def test_lines_that_are_lacking(self):
        for many in (1, 2, 9, 10, 11, 99, 100, 101):
            lines = ["letters a"] + [str(many)] + ["0"] * (many - 1)
            for size in range(1, len(lines) + 1):
                self.assertEqual(caught(BadLine, read_machine, "\n".join(lines[:size])).line, size + 1)
            self.assertEqual(len(read_machine("\n".join(lines + ["0"])).rows), many + 1)

    def test_one_sign_changed(self):
        machine = Machine("ab", [(1, 0), (10, 2)] + [(0, 0)] * 9, [1, 4])
        signs = format_machine(machine)
        changed = [signs[:at] + sign + signs[at:] for at in range(len(signs) + 1) for sign in " 01l\nz"]
        changed += [signs[:at] + signs[at + 1:] for at in range(len(signs))]
        changed += [signs[:at] + sign + signs[at + 1:] for at in range(len(signs)) for sign in " 09s\n~"]
        read = 0
        for other in changed:
            try:
                told = read_machine(other)
            except BadLine as error:
                lines = other.split("\n")
                self.assertLessEqual(1, error.line)
                self.assertLessEqual(error.line, len(lines) + 1)
                # The lines ahead of that line begin a text, as is seen with enough lines behind them.
                if 1 < error.line <= len(lines):
                    head = lines[:error.line - 1]
                    row = " ".join("0" for _ in lines[0].split(" ")[1])
                    more = head + [row] * 2000
                    self.assertEqual(len(read_machine("\n".join(more)).rows), len(more) - 1)
                    self.assertEqual(caught(BadLine, read_machine, "\n".join(lines[:error.line])).line, error.line)
            else:
                read += 1
                self.assertEqual(format_machine(told), other)
        self.assertGreater(read, 20)

    def test_values_of_any_kind(self):
        for value in OTHER_KINDS + [0, 1, -1, HUGE, ["letters ab", "0 0"], ("letters a\n0",), Machine("a", [(0,)], [])]:
            with self.subTest(value=value):
                self.assertEqual(vars(caught(BadLine, read_machine, value)), {"line": 1})


if __name__ == "__main__":
    unittest.main()
