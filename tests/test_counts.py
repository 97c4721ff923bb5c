import unittest
from math import comb

from scatteredpieces.counts import counts, nth_piece, number_of
from scatteredpieces.errors import BadLength, BadNumber, BadText, NoPiece
from scatteredpieces.texts import holds, pieces
from tests.plain import (
    ALPHABET, BAD_NUMBERS, BAD_TEXTS, HUGE, LONG_TEXTS, caught, plain_pieces, short_texts, total_pieces,
)


class CountsTest(unittest.TestCase):
    def test_example(self):
        self.assertEqual(counts("abab"), [1, 2, 4, 4, 1])

    def test_ordinary(self):
        for text, listed in [
            ("", [1]), ("a", [1, 1]), ("aaaa", [1, 1, 1, 1, 1]), ("abcd", [1, 4, 6, 4, 1]),
            ("abcab", [1, 3, 8, 10, 5, 1]),
        ]:
            with self.subTest(text=text):
                self.assertEqual(counts(text), listed)

    def test_plainly(self):
        for text in short_texts():
            listed = [len(plain_pieces(text, length)) for length in range(len(text) + 1)]
            self.assertEqual(counts(text), listed, text)

    def test_two_hundred_letters(self):
        for text in LONG_TEXTS:
            listed = counts(text)
            self.assertEqual(len(listed), 201)
            self.assertEqual(sum(listed), total_pieces(text))
            self.assertEqual(listed[:2] + listed[200:], [1, len(set(text)), 1])
            self.assertEqual(listed[198], len(pieces(text, 198)))
            self.assertEqual(listed, counts(text[::-1]))

    def test_two_letters_in_turn(self):
        listed = [sum(comb(length, out) for out in range(200 - length + 1)) for length in range(201)]
        self.assertEqual(counts("ab" * 100), listed)

    def test_all_letters_unlike(self):
        self.assertEqual(counts(ALPHABET), [comb(26, length) for length in range(27)])

    def test_one_letter_many_times(self):
        self.assertEqual(counts("q" * 200), [1] * 201)

    def test_list_of_integers(self):
        listed = counts("abcab")
        self.assertIs(type(listed), list)
        self.assertEqual({type(number) for number in listed}, {int})

    def test_by_name(self):
        self.assertEqual(counts(text="abab"), [1, 2, 4, 4, 1])

    def test_new_each_time(self):
        for text in ("abab", ""):
            listed = counts(text)
            kept = list(listed)
            listed[0] = 9
            self.assertEqual(counts(text), kept)

    def test_bad_text(self):
        for value in BAD_TEXTS:
            with self.subTest(value=value):
                self.assertIs(caught(BadText, counts, value).value, value)
                self.assertIs(caught(BadText, counts, text=value).value, value)


class NumberTest(unittest.TestCase):
    """nth_piece and number_of."""

    def test_example(self):
        self.assertEqual(nth_piece("abab", 3, 3), "bab")
        self.assertEqual(number_of("abab", "abb"), 2)

    def test_ordinary(self):
        for text, length, number, piece in [
            ("", 0, 0, ""), ("abc", 0, 0, ""), ("abc", 3, 0, "abc"), ("abcab", 2, 0, "aa"), ("abcab", 2, 7, "cb"),
            ("cba", 1, 0, "a"), ("cba", 2, 1, "ca"), ("aaaa", 2, 0, "aa"), ("zaz", 2, 2, "zz"),
        ]:
            with self.subTest(text=text, length=length, number=number):
                self.assertEqual(nth_piece(text, length, number), piece)
                self.assertEqual(number_of(text, piece), number)

    def test_plainly(self):
        for text in short_texts():
            for length in range(len(text) + 1):
                listed = plain_pieces(text, length)
                for number, piece in enumerate(listed):
                    self.assertEqual(nth_piece(text, length, number), piece, (text, length, number))
                    self.assertEqual(number_of(text, piece), number, (text, piece))
                self.assertEqual(caught(BadNumber, nth_piece, text, length, len(listed)).value, len(listed))

    def test_two_hundred_letters_listed(self):
        for text in LONG_TEXTS:
            for length in (0, 1, 2, 198, 199, 200):
                listed = pieces(text, length)
                for number in list(range(0, len(listed), 1777)) + [len(listed) - 1]:
                    self.assertEqual(nth_piece(text, length, number), listed[number])
                    self.assertEqual(number_of(text, listed[number]), number)

    def test_two_hundred_letters_not_listed(self):
        for text in LONG_TEXTS:
            many = counts(text)
            for length in (3, 20, 67, 100, 150, 190):
                last = many[length] - 1
                numbers = sorted({0, last // 7, last // 3, last // 2, last - last // 9, last})
                listed = [nth_piece(text, length, number) for number in numbers]
                self.assertEqual(listed, sorted(set(listed)))
                for number, piece in zip(numbers, listed):
                    self.assertEqual(len(piece), length)
                    self.assertTrue(holds(text, piece))
                    self.assertEqual(number_of(text, piece), number)

    def test_neighbours(self):
        # Between two pieces with the same beginning, whose next letters are neighbours, and which
        # go on with the greatest and the least ends, there is nothing.
        text = "abc" * 66 + "ab"
        number = number_of(text, "abcabcb" + "c" * 40)
        self.assertEqual(nth_piece(text, 47, number + 1), "abcabcc" + "a" * 40)
        self.assertEqual(nth_piece(text, 66, 0), "a" * 66)
        self.assertEqual(nth_piece(text, 66, 1), "a" * 65 + "b")
        self.assertEqual(nth_piece(text, 66, counts(text)[66] - 1), "c" * 66)

    def test_kinds_of_answers(self):
        self.assertIs(type(nth_piece("abab", 2, 1)), str)
        self.assertIs(type(number_of("abab", "ab")), int)

    def test_by_name(self):
        self.assertEqual(nth_piece(text="abab", length=3, number=3), "bab")
        self.assertEqual(nth_piece(number=1, text="abab", length=3), "aba")
        self.assertEqual(number_of(text="abab", piece="abb"), 2)
        self.assertEqual(number_of(piece="abb", text="abab"), 2)

    def test_same_again(self):
        for _ in range(2):
            self.assertEqual(nth_piece("abab", 3, 2), "abb")
            self.assertRaises(BadNumber, nth_piece, "abab", 3, 4)
            self.assertEqual(number_of("abab", "bab"), 3)
            self.assertRaises(NoPiece, number_of, "abab", "bba")


class NumberErrorTest(unittest.TestCase):
    def test_bad_text(self):
        for value in BAD_TEXTS:
            with self.subTest(value=value):
                self.assertIs(caught(BadText, nth_piece, value, 1, 0).value, value)
                self.assertIs(caught(BadText, nth_piece, number=0, length=0, text=value).value, value)
                self.assertIs(caught(BadText, number_of, value, "a").value, value)
                self.assertIs(caught(BadText, number_of, "abc", value).value, value)
                self.assertIs(caught(BadText, number_of, piece="", text=value).value, value)
                self.assertIs(caught(BadText, number_of, piece=value, text="").value, value)

    def test_bad_length(self):
        for value in BAD_NUMBERS:
            for text in ("", "abcab"):
                with self.subTest(text=text, value=value):
                    self.assertIs(caught(BadLength, nth_piece, text, value, 0).value, value)
                    self.assertIs(caught(BadLength, nth_piece, number=0, length=value, text=text).value, value)

    def test_bad_number(self):
        for value in BAD_NUMBERS:
            for text, length in [("", 0), ("", 1), ("abcab", 0), ("abcab", 2), ("abcab", 6), ("abab", HUGE)]:
                with self.subTest(text=text, length=length, value=value):
                    self.assertIs(caught(BadNumber, nth_piece, text, length, value).value, value)
                    self.assertIs(caught(BadNumber, nth_piece, number=value, length=length, text=text).value, value)

    def test_too_great_number(self):
        for text, length, number in [
            ("", 0, 1), ("", 0, HUGE), ("abcab", 0, 1), ("abcab", 2, 8), ("abcab", 2, 9), ("abcab", 5, 1),
            ("abab", 3, 4), ("abab", 3, HUGE), ("a" * 200, 100, 1), ("ab" * 100, 198, 19702), ("ab" * 100, 100, HUGE),
        ]:
            with self.subTest(text=text, length=length, number=number):
                self.assertEqual(caught(BadNumber, nth_piece, text, length, number).value, number)
        self.assertEqual(nth_piece("ab" * 100, 198, 19701), "bb" + "ab" * 98)
        self.assertEqual(caught(BadNumber, nth_piece, "abab", 2, 4).value, 4)

    def test_each_number_is_too_great_for_no_pieces(self):
        for text, length in [("", 1), ("abcab", 6), ("abcab", 7), ("abcab", HUGE), ("a" * 200, 201), ("", HUGE)]:
            for number in (0, 1, 2, HUGE):
                with self.subTest(text=text, length=length, number=number):
                    self.assertEqual(caught(BadNumber, nth_piece, text, length, number).value, number)

    def test_no_piece(self):
        for text, piece in [
            ("abab", "bba"), ("", "a"), ("abab", "c"), ("abab", "ababa"), ("ba", "ab"), ("abc", "aa"), ("a" * 200, "b"),
            ("a" * 200, "a" * 201),
        ]:
            with self.subTest(text=text, piece=piece):
                self.assertEqual(caught(NoPiece, number_of, text, piece).value, piece)
                self.assertEqual(caught(NoPiece, number_of, piece=piece, text=text).value, piece)

    def test_order(self):
        for value in BAD_TEXTS:
            with self.subTest(value=value):
                self.assertIs(caught(BadText, nth_piece, value, -1, -2).value, value)
                self.assertIs(caught(BadText, nth_piece, number=None, length=None, text=value).value, value)
                self.assertIs(caught(BadText, number_of, value, None).value, value)
                self.assertIs(caught(BadText, number_of, piece=8, text=value).value, value)
        for value in BAD_NUMBERS:
            with self.subTest(value=value):
                self.assertIs(caught(BadLength, nth_piece, "ab", value, -5).value, value)
                self.assertIs(caught(BadLength, nth_piece, "ab", value, HUGE).value, value)
                self.assertIs(caught(BadLength, nth_piece, number="x", length=value, text="ab").value, value)

    def test_arguments_are_not_changed(self):
        for values in [([["a"]], 1, 0), ("ab", [["a"]], 0), ("ab", 1, [["a"]])]:
            copied = repr(values)
            self.assertRaises(ValueError, nth_piece, *values)
            self.assertEqual(repr(values), copied)


if __name__ == "__main__":
    unittest.main()
