import unittest
from itertools import product

from scatteredpieces.counts import counts, number_of
from scatteredpieces.errors import BadLetters, BadText
from scatteredpieces.full import fullness, missing, missing_count, rounds
from scatteredpieces.texts import holds
from tests.plain import ALPHABET, BAD_LETTERS, BAD_TEXTS, LONG_TEXTS, all_texts, caught, piece_set

FUNCTIONS = (rounds, fullness, missing, missing_count)
SOME = all_texts("abc", 6) + ["zyxzyx", "banana", "mississippi", "abcdabcd", "abcddcba", "abacabad", "ababababab"]
LETTERS = ["a", "b", "c", "d", "z", "ab", "ac", "bc", "bz", "abc", "abd", "abcd", "xyz", "ims"]


def plain_rounds(text, letters):
    """List the places at which rounds end, by the words of the document."""
    places = []
    start = 0
    for place in range(len(text)):
        if all(letter in text[start:place + 1] for letter in letters):
            places.append(place)
            start = place + 1
    return places


def plain_missing(text, letters):
    """List the shortest texts over the letters that are no pieces, ascending, from a listing of all texts."""
    held = piece_set(text, len(text))
    size = 0
    while True:
        found = ["".join(word) for word in product(letters, repeat=size) if "".join(word) not in held]
        if found:
            return found
        size += 1


def text_of_rank(letters, size, rank):
    """Give the text with this number, from 0, in the ascending list of all texts of so many letters."""
    text = ""
    for _ in range(size):
        text = letters[rank % len(letters)] + text
        rank //= len(letters)
    return text


def rank_of(letters, text):
    rank = 0
    for letter in text:
        rank = rank * len(letters) + letters.index(letter)
    return rank


class FullTest(unittest.TestCase):
    def test_example(self):
        told = [function("abcabbca", "abc") for function in FUNCTIONS]
        self.assertEqual(told, [[2, 6], 2, "ccb", 2])

    def test_ordinary(self):
        for text, letters, told in [
            ("", "a", [[], 0, "a", 1]), ("", "abc", [[], 0, "a", 3]), ("", ALPHABET, [[], 0, "a", 26]),
            ("a", "a", [[0], 1, "aa", 1]), ("a", "b", [[], 0, "b", 1]), ("aaa", "a", [[0, 1, 2], 3, "aaaa", 1]),
            ("aba", "a", [[0, 2], 2, "aaa", 1]), ("ab", "ab", [[1], 1, "aa", 3]), ("ba", "ab", [[1], 1, "aa", 3]),
            ("abba", "ab", [[1, 3], 2, "aaa", 5]), ("abab", "ab", [[1, 3], 2, "aaa", 4]),
            ("abcab", "abc", [[2], 1, "cc", 1]),
            ("abcab", "abcd", [[], 0, "d", 1]), ("abcab", "de", [[], 0, "d", 2]), ("xaxbx", "ab", [[3], 1, "aa", 3]),
            (ALPHABET, ALPHABET, [[25], 1, "aa", 351]), (ALPHABET[::-1], ALPHABET, [[25], 1, "aa", 351]),
        ]:
            with self.subTest(text=text, letters=letters):
                least = plain_missing(text, letters) if len(text) < 9 else None
                if least is not None:
                    self.assertEqual([least[0], len(least)], told[2:])
                self.assertEqual([function(text, letters) for function in FUNCTIONS], told)

    def test_plainly(self):
        for text in SOME:
            for letters in LETTERS:
                found = plain_missing(text, letters)
                told = [plain_rounds(text, letters), len(found[0]) - 1, found[0], len(found)]
                self.assertEqual([function(text, letters) for function in FUNCTIONS], told, (text, letters))

    def test_more_letters_plainly(self):
        for text in ["abcdefabcdef", "fedcbaabcdef", "aabbccddeeff", "abcdef" + "abcde", "bcdefabcdefa", "hgfedcba"]:
            for letters in ["abcdef", "abcde", "bdf", "abcdefgh", "efgh"]:
                found = plain_missing(text, letters)
                told = [plain_rounds(text, letters), len(found[0]) - 1, found[0], len(found)]
                self.assertEqual([function(text, letters) for function in FUNCTIONS], told, (text, letters))

    def test_one_letter_short_of_a_round(self):
        for letters in ["ab", "abc", "abcdef", ALPHABET]:
            for many in (1, 2, 5):
                text = letters * many
                self.assertEqual(rounds(text, letters), list(range(len(letters) - 1, len(text), len(letters))))
                self.assertEqual(rounds(text[:-1], letters), rounds(text, letters)[:-1])
                self.assertEqual(fullness(text[:-1], letters), many - 1)
                self.assertEqual(fullness(text[1:], letters), many - 1)
                self.assertEqual(missing(text[:-1], letters), letters[-1] * many)
                self.assertEqual(missing_count(text[:-1], letters), 1)

    def test_letters_that_are_not_asked_for_change_nothing(self):
        for text in SOME[::7] + LONG_TEXTS:
            for letters in ["a", "ab", "bc", "abc"]:
                left = "".join([letter for letter in text if letter in letters])
                self.assertEqual(fullness(text, letters), fullness(left, letters))
                self.assertEqual(missing(text, letters), missing(left, letters))
                self.assertEqual(missing_count(text, letters), missing_count(left, letters))
                ends = rounds(text, letters)
                self.assertEqual(
                    [sum([sign in letters for sign in text[:end]]) for end in ends], rounds(left, letters)
                )

    def test_two_hundred_letters(self):
        self.assertEqual(fullness("a" * 200, "a"), 200)
        self.assertEqual(missing("a" * 200, "a"), "a" * 201)
        self.assertEqual(missing_count("a" * 200, "a"), 1)
        self.assertEqual(rounds("ab" * 100, "ab"), list(range(1, 200, 2)))
        self.assertEqual(missing("ab" * 100, "ab"), "a" * 101)
        self.assertEqual(missing("ba" * 100, "ab"), "a" * 101)
        self.assertEqual(missing("abba" * 50, "ab"), "a" * 101)
        self.assertEqual([missing_count("ab" * 100, "ab"), missing_count("ba" * 100, "ab")], [102, 102])
        self.assertEqual([missing("a" * 100 + "b" * 100, "ab"), missing_count("a" * 100 + "b" * 100, "ab")], ["ba", 1])

    def test_long_texts(self):
        for text in LONG_TEXTS:
            for letters in ["a", "ab", "abc", "bcd", "abcdef", ALPHABET]:
                left = "".join([letter for letter in text if letter in letters])
                ends = rounds(text, letters)
                self.assertEqual(ends, plain_rounds(text, letters))
                full = fullness(text, letters)
                self.assertEqual(full, len(ends))
                # All texts of so many letters are pieces, not all of one letter more.
                numbers = counts(left) + [0]
                self.assertEqual(numbers[full], len(letters) ** full)
                self.assertEqual(missing_count(text, letters), len(letters) ** (full + 1) - numbers[full + 1])
                least = missing(text, letters)
                self.assertEqual(len(least), full + 1)
                self.assertIs(holds(text, least), False)
                rank = rank_of(letters, least)
                if rank:
                    # As many pieces stand ahead of it as there are texts ahead of it: so none of these is missing.
                    self.assertEqual(number_of(left, text_of_rank(letters, full + 1, rank - 1)), rank - 1)

    def test_new_each_time(self):
        for text, letters in [("abcabbca", "abc"), ("", "a"), ("ab", "c")]:
            found = rounds(text, letters)
            kept = list(found)
            self.assertIs(type(found), list)
            found.append(9)
            self.assertEqual(rounds(text, letters), kept)

    def test_by_name(self):
        for function in FUNCTIONS:
            told = function("abcabbca", "abc")
            self.assertEqual(function(text="abcabbca", letters="abc"), told)
            self.assertEqual(function(letters="abc", text="abcabbca"), told)

    def test_kinds_of_values(self):
        for text, letters in [("", "a"), ("abcabbca", "abc")]:
            self.assertEqual([type(function(text, letters)) for function in FUNCTIONS], [list, int, str, int])
            self.assertTrue(all(type(place) is int for place in rounds(text, letters)))


class FullErrorTest(unittest.TestCase):
    def test_bad_text(self):
        for value in BAD_TEXTS:
            for function in FUNCTIONS:
                with self.subTest(function=function, value=value):
                    self.assertIs(caught(BadText, function, value, "ab").value, value)
                    self.assertIs(caught(BadText, function, letters="z", text=value).value, value)

    def test_bad_letters(self):
        for value in BAD_LETTERS:
            for function in FUNCTIONS:
                with self.subTest(function=function, value=value):
                    for text in ("", "a", "abab"):
                        self.assertIs(caught(BadLetters, function, text, value).value, value)
                    self.assertIs(caught(BadLetters, function, letters=value, text="ab").value, value)

    def test_order(self):
        for value in BAD_TEXTS:
            for function in FUNCTIONS:
                for letters in ("", "ba", None, value):
                    with self.subTest(function=function, value=value, letters=letters):
                        self.assertIs(caught(BadText, function, value, letters).value, value)
                        self.assertIs(caught(BadText, function, letters=letters, text=value).value, value)

    def test_arguments_are_not_changed(self):
        for value in ([["a"]], {"a": ["b"]}, ["a", "b"]):
            copied = repr(value)
            for function in FUNCTIONS:
                self.assertRaises(BadText, function, value, value)
                self.assertRaises(BadLetters, function, "a", value)
            self.assertEqual(repr(value), copied)


if __name__ == "__main__":
    unittest.main()
