import unittest
from itertools import product

from scatteredpieces.errors import BadLetters, BadSaying, BadText
from scatteredpieces.kinds import Kind, ground
from scatteredpieces.sayings import apart, is_saying, keeps, least_text, reach
from tests.plain import (
    ALPHABET, BAD_LETTERS, BAD_NUMBERS, BAD_TEXTS, HUGE, OTHER_KINDS, all_texts, caught, depth, nested, piece_set,
    some_sayings,
)

SOME = some_sayings()
EXAMPLE = ("and", ("has", "ab"), ("not", ("has", "ba")))
NO_SAYINGS = BAD_TEXTS + BAD_NUMBERS + [
    "", "a", "has", "has a", "not", 0, 1, HUGE, ("has",), ("not",), ("and",), ("or",), ("has", "a", "b"),
    ("has", "a", ("has", "a")), ("not", ("has", "a"), ("has", "b")), ("and", ("has", "a")), ("or", ("has", "a")),
    ("and", ("has", "a"), ("has", "b"), ("has", "c")), ("or", ("has", "a"), ("has", "b"), ("has", "c")),
    ["has", "a"], ["not", ("has", "a")], ["and", ("has", "a"), ("has", "b")], ("not", ["has", "a"]),
    ("and", ("has", "a"), ["has", "b"]), ("or", ["has", "a"], ("has", "b")), (["has"], "a"), (("has",), "a"),
    ("has", "A"), ("has", " "), ("has", "a "), ("has", "a\n"), ("has", None), ("has", 0), ("has", True), ("has", ["a"]),
    ("has", ("a",)), ("has", ("has", "a")), ("has", {}), ("not", "a"), ("not", ""), ("not", None), ("not", True),
    ("not", ()), ("not", ("a",)), ("not", (("has", "a"),)), ("and", "a", "b"), ("and", ("has", "a"), "b"),
    ("and", "a", ("has", "b")), ("or", ("has", "a"), None), ("or", ("has", "a"), ()), ("or", (), ("has", "a")),
    ("Has", "a"), ("HAS", "a"), ("hasn", "a"), ("ha", "a"), ("", "a"), ("nor", ("has", "a"), ("has", "b")),
    ("xor", ("has", "a"), ("has", "b")), ("if", ("has", "a"), ("has", "b")), ("has ", "a"), (" has", "a"),
    (None, "a"), (0, "a"), (True, "a"), ("a", "has"), (("has", "a"), "not"), (("has", "a"), "and", ("has", "b")),
    (("has", "a"),), (("has", "a"), ("has", "b")), ("and", (("has", "a"), ("has", "b"))), {"has": "a"},
    {"not": ("has", "a")}, [("has", "a")], ("not", ("not", ("not", ("has", "A")))), Kind("a", 1), (Kind("a", 1), "a"),
    ("has", Kind("a", 1)), ("not", Kind("a", 1)), ("and", ("has", "a"), Kind("a", 1)), ground("ab", 1), ("not", -1),
    ("and", ("has", "a"), ("has", -1)), ("or", ("has", "a"), ("not", ("has", "B"))),
]


def plain_keeps(text, saying):
    word = saying[0]
    if word == "has":
        return saying[1] in piece_set(text, len(saying[1]))
    told = [plain_keeps(text, part) for part in saying[1:]]
    return {"not": lambda: not told[0], "and": lambda: all(told), "or": lambda: any(told)}[word]()


def plain_reach(saying):
    return len(saying[1]) if saying[0] == "has" else max([plain_reach(part) for part in saying[1:]])


class IsSayingTest(unittest.TestCase):
    def test_sayings(self):
        for value in SOME + [
            ("has", ""), ("has", "a"), ("has", ALPHABET), ("has", "a" * 200), ("has", "has"), ("not", ("has", "")),
            ("and", ("has", "a"), ("has", "a")), ("or", ("has", ""), ("not", ("has", "z"))), EXAMPLE,
        ]:
            with self.subTest(value=value):
                self.assertIs(is_saying(value), True)

    def test_no_sayings(self):
        for value in NO_SAYINGS:
            with self.subTest(value=value):
                self.assertIs(is_saying(value), False)
                self.assertIs(is_saying(("not", value)), False)
                self.assertIs(is_saying(("and", value, ("has", "a"))), False)
                self.assertIs(is_saying(("and", ("has", "a"), value)), False)
                self.assertIs(is_saying(("or", value, ("has", "a"))), False)
                self.assertIs(is_saying(("or", ("has", "a"), value)), False)

    def test_levels(self):
        for word in ("not", "and", "or", "left", "right"):
            for levels in range(1, 11):
                self.assertIs(is_saying(nested(word, levels)), True, (word, levels))
            for levels in (11, 12, 20, 100):
                self.assertIs(is_saying(nested(word, levels)), False, (word, levels))

    def test_wide_values(self):
        value = ("has", "a")
        for levels in range(1, 11):
            self.assertIs(is_saying(value), True)
            value = ("and" if levels % 2 else "or", value, value)
        for _ in range(30):
            self.assertIs(is_saying(value), False)
            value = ("and", value, value)

    def test_by_name_and_value_is_not_changed(self):
        for value in [["has", ["a"]], ("not", ["has", "a"]), {"a": ["b"]}, EXAMPLE]:
            copied = repr(value)
            self.assertIs(is_saying(value=value), value == EXAMPLE)
            self.assertEqual(repr(value), copied)


class ReachTest(unittest.TestCase):
    def test_example(self):
        self.assertEqual(reach(EXAMPLE), 2)

    def test_ordinary(self):
        for saying, most in [
            (("has", ""), 0), (("has", "a"), 1), (("not", ("has", "abc")), 3), (("not", ("has", "")), 0),
            (("and", ("has", "a"), ("has", "bcd")), 3), (("or", ("has", "abcd"), ("has", "z")), 4),
            (("or", ("has", ""), ("and", ("not", ("has", "ab")), ("has", "a"))), 2), (("has", "a" * 60), 60),
        ]:
            with self.subTest(saying=saying):
                self.assertEqual(reach(saying), most)
                self.assertEqual(reach(saying=saying), most)

    def test_plainly(self):
        for saying in SOME:
            self.assertEqual(reach(saying), plain_reach(saying))

    def test_ten_levels(self):
        for word in ("not", "and", "or", "left", "right"):
            self.assertEqual(reach(nested(word, 10)), plain_reach(nested(word, 10)))

    def test_alike_texts_keep_the_same(self):
        texts = all_texts("ab", 5)
        for saying in SOME[:60]:
            k = reach(saying)
            told = {}
            for text in texts:
                told.setdefault(Kind(text, k).least, []).append(keeps(text, saying))
            self.assertTrue(all(len(set(answers)) == 1 for answers in told.values()))


class KeepsTest(unittest.TestCase):
    def test_example(self):
        self.assertIs(keeps("ba", EXAMPLE), False)

    def test_ordinary(self):
        has = ("has", "ab")
        other = ("has", "c")
        for text, saying, right in [
            ("", ("has", ""), True), ("abc", ("has", ""), True), ("", ("not", ("has", "")), False), ("", has, False),
            ("ab", has, True), ("acb", has, True), ("ba", has, False), ("ba", ("not", has), True),
            ("ab", ("and", has, other), False), ("abc", ("and", has, other), True), ("c", ("and", has, other), False),
            ("c", ("or", has, other), True), ("ab", ("or", has, other), True), ("ba", ("or", has, other), False),
            ("abc", ("or", has, other), True), ("z", ("and", ("not", has), ("not", other)), True),
        ]:
            with self.subTest(text=text, saying=saying):
                self.assertIs(keeps(text, saying), right)

    def test_plainly(self):
        for saying in SOME:
            for text in all_texts("ab", 4) + ["c", "abc", "cab", "cba", "bcbca", "zab"]:
                self.assertIs(keeps(text, saying), plain_keeps(text, saying), (text, saying))

    def test_ten_levels(self):
        for word in ("not", "and", "or", "left", "right"):
            for levels in range(1, 11):
                for text in ("", "a", "b", "ab", "ba"):
                    saying = nested(word, levels)
                    self.assertIs(keeps(text, saying), plain_keeps(text, saying))

    def test_sixty_letters_and_sixty_words(self):
        words = all_texts("ab", 4)[7:]
        saying = nested_list("and", [("has", word) for word in words])
        self.assertIs(keeps("ab" * 30, saying), True)
        self.assertIs(keeps("a" * 30 + "b" * 30, saying), False)
        self.assertIs(keeps("ab" * 4, saying), True)
        self.assertIs(keeps("ab" * 3 + "a", saying), False)

    def test_by_name(self):
        self.assertIs(keeps(text="ab", saying=EXAMPLE), True)
        self.assertIs(keeps(saying=EXAMPLE, text="ba"), False)


def nested_list(word, sayings):
    """Join the sayings by the word, in as few levels as can be."""
    while len(sayings) > 1:
        pairs = [sayings[at:at + 2] for at in range(0, len(sayings), 2)]
        sayings = [(word, *pair) if len(pair) == 2 else pair[0] for pair in pairs]
    return sayings[0]


class LeastTextTest(unittest.TestCase):
    def test_example(self):
        self.assertEqual(least_text(EXAMPLE, "ab"), "ab")

    def test_ordinary(self):
        for saying, letters, least in [
            (("has", ""), "ab", ""), (("not", ("has", "")), "ab", None), (("has", "ba"), "ab", "ba"),
            (("has", "ba"), "abc", "ba"), (("has", "c"), "ab", None), (("not", ("has", "c")), "ab", ""),
            (("has", "ac"), "ab", None), (("or", ("has", "ac"), ("has", "bb")), "ab", "bb"),
            (("or", ("has", "bb"), ("has", "aa")), "ab", "aa"), (("or", ("has", "aaa"), ("has", "bb")), "ab", "bb"),
            (("and", ("has", "ab"), ("has", "ba")), "ab", "aba"), (("and", ("has", "ba"), ("has", "b")), "ab", "ba"),
            (("and", ("has", "a"), ("not", ("has", "a"))), "ab", None),
            (("or", ("has", "a"), ("not", ("has", "a"))), "ab", ""),
            (("and", ("has", "aaa"), ("has", "bbb")), "ab", "aaabbb"),
            (("and", ("has", "bbb"), ("not", ("has", "b"))), "ab", None), (("has", "a"), "b", None),
            (("has", "zyx"), ALPHABET, "zyx"), (("not", ("has", "a")), "a", ""),
            (("and", ("not", ("has", "aab")), ("has", "bbaa")), "ab", "bbaa"),
        ]:
            with self.subTest(saying=saying, letters=letters):
                self.assertEqual(least_text(saying, letters), least)

    def test_plainly(self):
        for letters, longest in [("a", 8), ("ab", 7), ("b", 8), ("abc", 5), ("xz", 4), ("ac", 6)]:
            texts = all_texts(letters, longest)
            for saying in SOME:
                kept = [text for text in texts if keeps(text, saying)]
                least = least_text(saying, letters)
                if kept:
                    self.assertEqual(least, kept[0], (saying, letters))
                elif least is not None:
                    self.assertGreater(len(least), longest)
                    self.assertIs(keeps(least, saying), True)

    def test_settled_by_the_ground(self):
        for letters, most in [("ab", 3), ("abc", 2), ("abcd", 1), ("a", 4)]:
            for saying in SOME:
                if reach(saying) <= most:
                    kept = [text for text in ground(letters, reach(saying)) if keeps(text, saying)]
                    self.assertEqual(least_text(saying, letters), (kept + [None])[0], (saying, letters))

    def test_long_texts_alone(self):
        all_of = nested_list("and", [("has", "".join(word)) for word in product("ab", repeat=4)])
        self.assertEqual(least_text(all_of, "ab"), "abababab")
        self.assertEqual(least_text(("not", all_of), "ab"), "")
        self.assertEqual(least_text(("and", all_of, ("not", ("has", "aaaaa"))), "ab"), "abababab")
        self.assertEqual(least_text(("has", "ab" * 30), "ab"), "ab" * 30)
        self.assertEqual(least_text(("and", ("has", "a" * 20), ("has", "b" * 20)), "ab"), "a" * 20 + "b" * 20)
        doubled = nested_list("and", [("has", word) for word in ("cc", "bb", "aa")])
        self.assertEqual(least_text(doubled, "abc"), "aabbcc")

    def test_sixty_words(self):
        words = all_texts("ab", 4)[1:]
        told = [("has", word) if len(word) % 2 else ("not", ("has", word)) for word in words]
        for join in ("and", "or"):
            saying = nested_list(join, told[:20])
            kept = [text for text in ground("ab", 4) if keeps(text, saying)]
            self.assertEqual(least_text(saying, "ab"), (kept + [None])[0])
        whole = nested_list("and", [("has", word) for word in words])
        self.assertEqual(least_text(whole, "ab"), "abababab")
        self.assertEqual(least_text(("and", whole, ("not", whole)), "abcdef"), None)

    def test_by_name(self):
        self.assertEqual(least_text(saying=EXAMPLE, letters="ab"), "ab")
        self.assertEqual(least_text(letters="a", saying=("has", "b")), None)


class ApartTest(unittest.TestCase):
    def test_example(self):
        self.assertEqual(apart(("has", "aa"), ("has", "aba"), "ab"), "aa")

    def test_ordinary(self):
        always = ("has", "")
        never = ("not", always)
        for one, other, letters, least in [
            (always, always, "ab", None), (never, never, "ab", None), (always, never, "ab", ""),
            (("has", "a"), always, "ab", ""), (("has", "a"), never, "ab", "a"), (("has", "b"), never, "a", None),
            (("has", "ab"), ("has", "ba"), "ab", "ab"), (("has", "a"), ("has", "aa"), "ab", "a"),
            (("has", "ab"), ("and", ("has", "a"), ("has", "b")), "ab", "ba"), (("has", "x"), ("has", "y"), "ab", None),
            (("has", "x"), ("has", "a"), "ab", "a"), (("has", "ax"), ("has", "ay"), "abxy", "ax"),
            (("not", ("and", ("has", "a"), ("has", "b"))), ("or", ("not", ("has", "a")), ("not", ("has", "b"))), "ab",
             None),
            (("or", ("has", "ab"), ("has", "ba")), ("and", ("has", "a"), ("has", "b")), "ab", None),
            (("or", ("has", "ab"), ("has", "ba")), ("and", ("has", "b"), ("has", "a")), "abc", None),
            (("has", "aba"), ("and", ("has", "ab"), ("has", "ba")), "ab", "bab"),
        ]:
            with self.subTest(one=one, other=other, letters=letters):
                self.assertEqual(apart(one, other, letters), least)
                self.assertEqual(apart(other, one, letters), least)

    def test_plainly(self):
        for letters, longest in [("ab", 6), ("b", 7), ("abc", 4)]:
            texts = all_texts(letters, longest)
            for one, other in zip(SOME, SOME[7:] + SOME[:7]):
                parted = [text for text in texts if keeps(text, one) != keeps(text, other)]
                least = apart(one, other, letters)
                self.assertEqual(apart(other, one, letters), least)
                if depth(one) < 8 and depth(other) < 8:
                    just_one = ("or", ("and", one, ("not", other)), ("and", other, ("not", one)))
                    self.assertEqual(least_text(just_one, letters), least)
                if parted:
                    self.assertEqual(least, parted[0], (one, other, letters))
                elif least is not None:
                    self.assertGreater(len(least), longest)
                    self.assertNotEqual(keeps(least, one), keeps(least, other))

    def test_itself(self):
        for saying in SOME:
            self.assertIsNone(apart(saying, saying, "abc"))
            if depth(saying) < 9:
                self.assertIsNone(apart(saying, ("not", ("not", saying)), "abc"))
            if depth(saying) < 10:
                self.assertEqual(apart(saying, ("not", saying), "abc"), "")

    def test_long_texts_alone(self):
        words = ["".join(word) for word in product("ab", repeat=4)]
        whole = nested_list("and", [("has", word) for word in words])
        self.assertEqual(apart(whole, ("not", ("has", "")), "ab"), "abababab")
        self.assertEqual(apart(whole, nested_list("and", [("has", word) for word in words[1:]]), "ab"), "bababab")
        self.assertEqual(apart(("has", "ab" * 20), ("has", "ab" * 20 + "b"), "ab"), "ab" * 20)

    def test_by_name(self):
        self.assertEqual(apart(one=("has", "aa"), other=("has", "aba"), letters="ab"), "aa")
        self.assertEqual(apart(letters="b", other=("has", "aba"), one=("has", "aa")), None)


class SayingErrorTest(unittest.TestCase):
    def test_bad_saying(self):
        for value in NO_SAYINGS + [nested("not", 11), nested("left", 12)]:
            with self.subTest(value=value):
                self.assertIs(caught(BadSaying, reach, value).value, value)
                self.assertIs(caught(BadSaying, reach, saying=value).value, value)
                for text in ("", "ab"):
                    self.assertIs(caught(BadSaying, keeps, text, value).value, value)
                    self.assertIs(caught(BadSaying, keeps, saying=value, text=text).value, value)
                for letters in ("a", "ab", "", None, 0, "ba"):
                    self.assertIs(caught(BadSaying, least_text, value, letters).value, value)
                    self.assertIs(caught(BadSaying, least_text, letters=letters, saying=value).value, value)
                    for other in (("has", "a"), None, "", ("has", 0)):
                        self.assertIs(caught(BadSaying, apart, value, other, letters).value, value)
                        self.assertIs(caught(BadSaying, apart, letters=letters, other=other, one=value).value, value)
                    self.assertIs(caught(BadSaying, apart, EXAMPLE, value, letters).value, value)
                    self.assertIs(caught(BadSaying, apart, letters=letters, other=value, one=EXAMPLE).value, value)

    def test_bad_text_ahead_of_bad_saying(self):
        for value in BAD_TEXTS:
            for saying in (EXAMPLE, None, ("has",), "", value):
                with self.subTest(value=value, saying=saying):
                    self.assertIs(caught(BadText, keeps, value, saying).value, value)
                    self.assertIs(caught(BadText, keeps, saying=saying, text=value).value, value)

    def test_bad_letters(self):
        for value in BAD_LETTERS:
            with self.subTest(value=value):
                for saying in (EXAMPLE, ("has", ""), nested("or", 10)):
                    self.assertIs(caught(BadLetters, least_text, saying, value).value, value)
                    self.assertIs(caught(BadLetters, least_text, letters=value, saying=saying).value, value)
                    self.assertIs(caught(BadLetters, apart, saying, saying, value).value, value)
                    self.assertIs(caught(BadLetters, apart, letters=value, other=saying, one=EXAMPLE).value, value)

    def test_arguments_are_not_changed(self):
        for value in OTHER_KINDS + [("has", ["a"]), ("not", ["has", {"a": [0]}])]:
            copied = repr(value)
            self.assertRaises(BadSaying, reach, value)
            self.assertRaises(BadSaying, keeps, "a", value)
            self.assertRaises(BadSaying, apart, EXAMPLE, value, value)
            self.assertRaises(BadLetters, least_text, EXAMPLE, value)
            self.assertEqual(repr(value), copied)


if __name__ == "__main__":
    unittest.main()
