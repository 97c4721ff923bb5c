import unittest
from itertools import combinations

from scatteredpieces.errors import BadText, NoPlace
from scatteredpieces.texts import first_places, last_places
from scatteredpieces.ways import ahead, are_leads, behind, leads
from tests.plain import ALPHABET, BAD_NUMBERS, BAD_TEXTS, HUGE, LONG_TEXTS, caught, short_texts


def plain_leads(text):
    """List, for each place, the pieces whose first places end there and those whose last places begin there."""
    heads = [set() for _ in text]
    tails = [set() for _ in text]
    for size in range(1, len(text) + 1):
        for piece in {"".join(letters) for letters in combinations(text, size)}:
            heads[first_places(text, piece)[-1]].add(piece)
            tails[last_places(text, piece)[0]].add(piece)
    return heads, tails


def shorter_ones(listed):
    least = min(len(piece) for piece in listed)
    return sorted(piece for piece in listed if len(piece) == least)


class WaysTest(unittest.TestCase):
    """ahead and behind."""

    def test_example(self):
        self.assertEqual([ahead("abab"), behind("abab")], [[1, 1, 2, 2], [2, 2, 1, 1]])

    def test_ordinary(self):
        for text, forward, backward in [
            ("", [], []), ("a", [1], [1]), ("z", [1], [1]), ("aa", [1, 2], [2, 1]), ("ab", [1, 1], [1, 1]),
            ("aaaa", [1, 2, 3, 4], [4, 3, 2, 1]), ("aba", [1, 1, 2], [2, 1, 1]), ("abba", [1, 1, 2, 2], [2, 2, 1, 1]),
            ("abcabc", [1, 1, 1, 2, 2, 2], [2, 2, 2, 1, 1, 1]), ("aabaa", [1, 2, 1, 2, 3], [3, 2, 1, 2, 1]),
            ("abccba", [1, 1, 1, 2, 2, 2], [2, 2, 2, 1, 1, 1]), ("aaab", [1, 2, 3, 1], [3, 2, 1, 1]),
            ("baaab", [1, 1, 2, 3, 2], [2, 3, 2, 1, 1]),
        ]:
            with self.subTest(text=text):
                self.assertEqual(ahead(text), forward)
                self.assertEqual(behind(text), backward)

    def test_plainly(self):
        for text in short_texts():
            heads, tails = plain_leads(text)
            self.assertEqual(ahead(text), [min(map(len, listed)) for listed in heads], text)
            self.assertEqual(behind(text), [min(map(len, listed)) for listed in tails], text)

    def test_one_letter_many_times(self):
        self.assertEqual(ahead("q" * 200), list(range(1, 201)))
        self.assertEqual(behind("q" * 200), list(range(200, 0, -1)))

    def test_all_letters_unlike(self):
        for text in (ALPHABET, ALPHABET[::-1]):
            self.assertEqual(ahead(text), [1] * 26)
            self.assertEqual(behind(text), [1] * 26)

    def test_two_hundred_letters(self):
        self.assertEqual(ahead("ab" * 100), [number // 2 + 1 for number in range(200)])
        self.assertEqual(behind("ab" * 100), [100 - number // 2 for number in range(200)])
        self.assertEqual(ahead("a" * 100 + "b" * 100), list(range(1, 101)) * 2)
        self.assertEqual(ahead((ALPHABET * 8)[:200]), [number // 26 + 1 for number in range(200)])
        self.assertEqual(ahead("a" + "b" * 198 + "a"), [1] + list(range(1, 199)) + [2])

    def test_two_hundred_letters_by_the_letter_before(self):
        for text in LONG_TEXTS:
            for word, ways in [(text, ahead(text)), (text[::-1], behind(text)[::-1])]:
                self.assertEqual(len(ways), 200)
                for place, letter in enumerate(word):
                    before = word.rfind(letter, 0, place)
                    self.assertEqual(ways[place], 1 + min(ways[before:place]) if before >= 0 else 1)

    def test_lists_of_integers(self):
        for function in (ahead, behind):
            for text in ("", "abcab"):
                self.assertIs(type(function(text)), list)
            self.assertEqual({type(way) for way in function("abcab")}, {int})

    def test_by_name(self):
        self.assertEqual(ahead(text="aab"), [1, 2, 1])
        self.assertEqual(behind(text="aab"), [2, 1, 1])

    def test_new_each_time(self):
        for function in (ahead, behind):
            for text in ("", "abab"):
                listed = function(text)
                kept = list(listed)
                listed.append(9)
                self.assertEqual(function(text), kept)

    def test_bad_text(self):
        for function in (ahead, behind):
            for value in BAD_TEXTS:
                with self.subTest(function=function, value=value):
                    self.assertIs(caught(BadText, function, value).value, value)
                    self.assertIs(caught(BadText, function, text=value).value, value)


class LeadsTest(unittest.TestCase):
    """leads and are_leads."""

    def check(self, text, place):
        value = leads(text, place)
        self.assertIs(type(value), tuple)
        head, tail = value
        self.assertEqual((len(head), len(tail)), (ahead(text)[place], behind(text)[place]), (text, place))
        self.assertEqual(first_places(text, head)[-1], place, (text, head))
        self.assertEqual(last_places(text, tail)[0], place, (text, tail))
        self.assertIs(are_leads(text, place, value), True, (text, place, value))

    def test_example(self):
        self.assertIs(are_leads("abab", 2, ("ba", "a")), True)
        self.assertIs(are_leads("abab", 2, ("ab", "a")), False)

    def test_ordinary(self):
        for text, place, value in [
            ("a", 0, ("a", "a")), ("ab", 0, ("a", "a")), ("ab", 1, ("b", "b")), ("aa", 1, ("aa", "a")),
            ("aba", 2, ("ba", "a")), ("aaab", 2, ("aaa", "a")), ("baaab", 4, ("ab", "b")),
        ]:
            with self.subTest(text=text, place=place):
                self.check(text, place)
                self.assertIs(are_leads(text, place, value), True)
        self.assertEqual(leads("a", 0), ("a", "a"))
        self.assertEqual(leads("aaab", 2), ("aaa", "a"))

    def test_plainly(self):
        for text in short_texts():
            if len(text) > 6:
                continue
            heads, tails = plain_leads(text)
            words = sorted(set().union(*heads, *tails)) + [""]
            for place in range(len(text)):
                self.check(text, place)
                right = {(head, tail) for head in shorter_ones(heads[place]) for tail in shorter_ones(tails[place])}
                self.assertIn(leads(text, place), right)
                for value in [(head, tail) for head in words for tail in words]:
                    self.assertIs(are_leads(text, place, value), value in right, (text, place, value))

    def test_both_are_asked(self):
        for value, right in [
            (("ba", "aa"), True), (("aa", "aa"), True), (("aa", "ab"), False), (("ba", "ab"), False),
            (("ab", "aa"), False), (("bb", "aa"), False), (("ba", "ba"), False), (("ba", "bb"), False),
            (("ba", ""), False), (("", "aa"), False), (("aba", "aa"), False), (("ba", "aba"), False),
            (("ba", "a"), False), (("a", "aa"), False), (("bac", "aa"), False), (("ba", "caa"), False),
            (("ca", "aa"), False), (("ba", "ac"), False), (("baz", "aa"), False), (("aa", "ba"), False),
        ]:
            with self.subTest(value=value):
                self.assertIs(are_leads("ababab", 2, value), right)

    def test_two_hundred_letters(self):
        for text in LONG_TEXTS + ["q" * 200, "a" + "b" * 198 + "a"]:
            for place in [0, 1, 2, 63, 99, 100, 101, 155, 197, 198, 199]:
                self.check(text, place)
                head, tail = leads(text, place)
                for value in [(head + "a", tail), (head, "a" + tail), (head[1:], tail), (head, tail[:-1])]:
                    self.assertIs(are_leads(text, place, value), False, (text, place, value))

    def test_values_of_any_kind(self):
        values = BAD_TEXTS + BAD_NUMBERS + [
            ["ba", "a"], ("ba",), ("ba", "a", "a"), ("ba", "a", ""), (), "ba", ("ba", ["a"]), (["b", "a"], "a"),
            (("ba", "a"),), ("ba", ("a",)), (("b", "a"), ("a",)), ("ba", None), (None, "a"), (True, True), (2, 2),
            ("ba", 1), (0, "a"), ("bA", "a"), ("ba", "A"), ("ba ", "a"), ("ba", "a\n"), {"ba": "a"}, {0: "ba", 1: "a"},
            ("BA", "a"), (" ", "a"), ("", ""), ("a", "a"), ("a" * 300, "a"), ("ba", "a" * 300), ({"ba": 0}, {"a": 0}),
        ]
        for value in values:
            with self.subTest(value=value):
                self.assertIs(are_leads("abab", 2, value), False)
        self.assertIs(are_leads("abab", 2, ("ba", "a")), True)

    def test_results_of_calls_as_values(self):
        for value in [ahead("abab"), tuple(ahead("abab")), leads("abab", 1), leads("baba", 2), [leads("abab", 2)]]:
            self.assertIs(are_leads("abab", 2, value), False, value)

    def test_by_name(self):
        self.assertEqual(leads(text="aab", place=1), ("aa", "a"))
        self.assertEqual(leads(place=1, text="aab"), ("aa", "a"))
        self.assertIs(are_leads(text="aab", place=1, value=("aa", "a")), True)
        self.assertIs(are_leads(value=("a", "a"), place=1, text="aab"), False)

    def test_bad_text(self):
        for value in BAD_TEXTS:
            with self.subTest(value=value):
                self.assertIs(caught(BadText, leads, value, 0).value, value)
                self.assertIs(caught(BadText, leads, place=0, text=value).value, value)
                self.assertIs(caught(BadText, are_leads, value, 0, ("a", "a")).value, value)
                self.assertIs(caught(BadText, are_leads, value=None, place=0, text=value).value, value)

    def test_no_place(self):
        for text in ("", "a", "abcab", "q" * 200):
            for value in BAD_NUMBERS + [len(text), len(text) + 1, HUGE, -len(text) - 1]:
                with self.subTest(text=text, value=value):
                    self.assertIs(caught(NoPlace, leads, text, value).value, value)
                    self.assertIs(caught(NoPlace, leads, place=value, text=text).value, value)
                    for other in (("a", "a"), None, [[]]):
                        self.assertIs(caught(NoPlace, are_leads, text, value, other).value, value)
                        self.assertIs(caught(NoPlace, are_leads, value=other, place=value, text=text).value, value)
        self.assertEqual(caught(NoPlace, leads, "", 0).value, 0)

    def test_order(self):
        for value in BAD_TEXTS:
            with self.subTest(value=value):
                for place in (None, True, -1, HUGE, "a", [0]):
                    self.assertIs(caught(BadText, leads, value, place).value, value)
                    self.assertIs(caught(BadText, leads, place=place, text=value).value, value)
                    self.assertIs(caught(BadText, are_leads, value, place, None).value, value)
                    self.assertIs(caught(BadText, are_leads, value=1, place=place, text=value).value, value)

    def test_arguments_are_not_changed(self):
        for value in (["ba", ["a"]], ("ba", ["a"]), {"ba": ["a"]}, ([["ba"]], "a")):
            copied = repr(value)
            self.assertIs(are_leads("abab", 2, value), False)
            self.assertRaises(NoPlace, leads, "abab", value)
            self.assertRaises(BadText, ahead, value)
            self.assertEqual(repr(value), copied)


if __name__ == "__main__":
    unittest.main()
