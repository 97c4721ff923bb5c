import unittest

from scatteredpieces.errors import BadLength, BadText, NoPiece
from scatteredpieces.texts import first_places, holds, is_letters, is_text, last_places, pieces
from tests.plain import (
    ALPHABET, BAD_NUMBERS, BAD_TEXTS, HUGE, LONG_TEXTS, caught, plain_pieces, short_texts,
)


class ValueTest(unittest.TestCase):
    def test_texts(self):
        for value in ["", "a", "z", "m", "aa", "ba", "abcab", "zzz", ALPHABET, ALPHABET[::-1]] + LONG_TEXTS:
            with self.subTest(value=value):
                self.assertIs(is_text(value), True)

    def test_no_texts(self):
        for value in BAD_TEXTS:
            with self.subTest(value=value):
                self.assertIs(is_text(value), False)

    def test_each_other_sign(self):
        for number in list(range(300)) + [0x430, 0x3b1, 0xff41, 0x1d41a]:
            sign = chr(number)
            with self.subTest(sign=sign):
                self.assertIs(is_text(sign), sign in list(ALPHABET))
                self.assertIs(is_text("a" + sign), sign in list(ALPHABET))
                self.assertIs(is_letters(sign), sign in list(ALPHABET))

    def test_letters(self):
        for value in ["a", "z", "ab", "az", "xyz", "abcdef", "bdf", ALPHABET]:
            with self.subTest(value=value):
                self.assertIs(is_letters(value), True)

    def test_no_letters(self):
        for value in BAD_TEXTS + ["", "aa", "ba", "aab", "abb", "acb", "aba", "zy", "abca", ALPHABET[::-1]]:
            with self.subTest(value=value):
                self.assertIs(is_letters(value), False)

    def test_by_name(self):
        self.assertIs(is_text(value="ab"), True)
        self.assertIs(is_letters(value="ba"), False)

    def test_arguments_are_not_changed(self):
        for function in (is_text, is_letters):
            value = ["b", {"a": ["c"]}, ("d", ["e"])]
            self.assertIs(function(value), False)
            self.assertEqual(value, ["b", {"a": ["c"]}, ("d", ["e"])])


class HoldsTest(unittest.TestCase):
    def test_example(self):
        self.assertIs(holds("abcab", "cc"), False)

    def test_ordinary(self):
        for text, piece in [
            ("abcab", "ab"), ("abcab", "ac"), ("abcab", "ba"), ("abcab", "aab"), ("abcab", "abcab"), ("abcab", "bcb"),
            ("a", "a"), ("", ""), ("abc", ""), ("xaxbxcx", "abc"),
        ]:
            with self.subTest(text=text, piece=piece):
                self.assertIs(holds(text, piece), True)
        for text, piece in [
            ("ab", "ba"), ("ab", "aa"), ("ab", "c"), ("abcab", "cc"), ("abcab", "bbb"), ("", "a"), ("a", "aa"),
            ("abcab", "abcabc"), ("abcab", "aabcab"), ("abc", "abd"), ("b", "ab"), ("ab", "abab"),
        ]:
            with self.subTest(text=text, piece=piece):
                self.assertIs(holds(text, piece), False)

    def test_plainly(self):
        for text in short_texts():
            held = {piece for length in range(5) for piece in plain_pieces(text, length)}
            for piece in short_texts():
                if len(piece) < 5:
                    self.assertIs(holds(text, piece), piece in held, (text, piece))

    def test_two_hundred_letters(self):
        for text in LONG_TEXTS:
            self.assertIs(holds(text, text), True)
            self.assertIs(holds(text, text[::2]), True)
            self.assertIs(holds(text, text[1:] + "a" + text[0]), False)
            self.assertIs(holds(text, text + "a"), False)
            self.assertIs(holds(text[1:], text), False)
        self.assertIs(holds("a" * 200, "a" * 201), False)
        self.assertIs(holds("ab" * 100, "b" * 100), True)
        self.assertIs(holds("ab" * 100, "b" * 101), False)
        self.assertIs(holds("ab" * 100, "b" * 100 + "a"), False)

    def test_by_name(self):
        self.assertIs(holds(text="abcab", piece="cab"), True)
        self.assertIs(holds(piece="abc", text="ab"), False)


def is_first(text, piece, places):
    """Tell whether the letters stand there, and none can stand further ahead behind the one before it."""
    starts = [0] + [place + 1 for place in places]
    return len(places) == len(piece) and all(
        start <= place and text[place] == letter and letter not in text[start:place]
        for start, place, letter in zip(starts, places, piece)
    )


class PlacesTest(unittest.TestCase):
    def test_example(self):
        self.assertEqual(first_places("abcab", "ab"), [0, 1])
        self.assertEqual(last_places("abcab", "ab"), [3, 4])

    def test_ordinary(self):
        for text, piece, first, last in [
            ("", "", [], []), ("abc", "", [], []), ("a", "a", [0], [0]), ("abc", "abc", [0, 1, 2], [0, 1, 2]),
            ("abcab", "ba", [1, 3], [1, 3]), ("abcab", "b", [1], [4]), ("abcab", "aab", [0, 3, 4], [0, 3, 4]),
            ("abab", "ab", [0, 1], [2, 3]), ("aaaa", "aa", [0, 1], [2, 3]), ("aabbaabb", "ab", [0, 2], [5, 7]),
            ("abcabcabc", "cba", [2, 4, 6], [2, 4, 6]), ("abcabcabc", "ac", [0, 2], [6, 8]),
        ]:
            with self.subTest(text=text, piece=piece):
                self.assertEqual(first_places(text, piece), first)
                self.assertEqual(last_places(text, piece), last)

    def test_plainly(self):
        for text in short_texts() + LONG_TEXTS:
            size = len(text)
            listed = [text, text[::2], text[1::3], text[size // 2:], text[:size // 2], ""]
            if size < 12:
                listed = [piece for length in range(size + 1) for piece in plain_pieces(text, length)]
            for piece in listed:
                first = first_places(text, piece)
                self.assertTrue(is_first(text, piece, first), (text, piece, first))
                last = last_places(text, piece)
                turned = [size - 1 - place for place in last[::-1]]
                self.assertTrue(is_first(text[::-1], piece[::-1], turned), (text, piece, last))

    def test_lists_of_integers(self):
        for function in (first_places, last_places):
            places = function("abcab", "cab")
            self.assertIs(type(places), list)
            self.assertEqual([type(place) for place in places], [int, int, int])

    def test_no_piece(self):
        for text, piece in [
            ("ab", "ba"), ("ab", "aa"), ("", "a"), ("abcab", "cc"), ("abcab", "abcaba"), ("abc", "d"), ("a" * 200, "b"),
            ("ab", "abc"), ("bc", "abc"), ("a" * 200, "a" * 201),
        ]:
            for function in (first_places, last_places):
                with self.subTest(function=function, text=text, piece=piece):
                    self.assertEqual(caught(NoPiece, function, text, piece).value, piece)
                    self.assertEqual(caught(NoPiece, function, piece=piece, text=text).value, piece)

    def test_by_name(self):
        self.assertEqual(first_places(text="abcab", piece="ab"), [0, 1])
        self.assertEqual(first_places(piece="ab", text="abcab"), [0, 1])
        self.assertEqual(last_places(text="abcab", piece="ab"), [3, 4])
        self.assertEqual(last_places(piece="ab", text="abcab"), [3, 4])

    def test_new_each_time(self):
        for function in (first_places, last_places):
            for piece in ("ab", ""):
                places = function("abab", piece)
                kept = list(places)
                places.append(9)
                self.assertEqual(function("abab", piece), kept)


class PairErrorTest(unittest.TestCase):
    """holds, first_places and last_places refuse what is no text, the text ahead of the piece."""

    def test_bad_text(self):
        for function in (holds, first_places, last_places):
            for value in BAD_TEXTS:
                with self.subTest(function=function, value=value):
                    self.assertIs(caught(BadText, function, value, "a").value, value)
                    self.assertIs(caught(BadText, function, "abc", value).value, value)
                    self.assertIs(caught(BadText, function, text=value, piece="").value, value)
                    self.assertIs(caught(BadText, function, piece=value, text="").value, value)

    def test_order(self):
        for function in (holds, first_places, last_places):
            for value in BAD_TEXTS:
                with self.subTest(function=function, value=value):
                    self.assertIs(caught(BadText, function, value, None).value, value)
                    self.assertIs(caught(BadText, function, piece=7, text=value).value, value)


class PiecesTest(unittest.TestCase):
    def test_example(self):
        self.assertEqual(pieces("abcab", 2), ["aa", "ab", "ac", "ba", "bb", "bc", "ca", "cb"])

    def test_ordinary(self):
        for text, length, listed in [
            ("", 0, [""]), ("abc", 0, [""]), ("", 1, []), ("abc", 1, ["a", "b", "c"]), ("cba", 1, ["a", "b", "c"]),
            ("cba", 2, ["ba", "ca", "cb"]), ("cba", 3, ["cba"]), ("cba", 4, []), ("aaaa", 3, ["aaa"]), ("aaaa", 5, []),
            ("abab", 3, ["aab", "aba", "abb", "bab"]), ("abcab", HUGE, []), ("", HUGE, []), ("z", 1, ["z"]),
        ]:
            with self.subTest(text=text, length=length):
                self.assertEqual(pieces(text, length), listed)

    def test_plainly(self):
        for text in short_texts():
            for length in range(len(text) + 2):
                self.assertEqual(pieces(text, length), plain_pieces(text, length), (text, length))

    def test_all_letters_unlike(self):
        for length in range(4):
            self.assertEqual(pieces(ALPHABET, length), plain_pieces(ALPHABET, length))
        self.assertEqual(pieces(ALPHABET[::-1], 25), plain_pieces(ALPHABET[::-1], 25))
        self.assertEqual(pieces(ALPHABET, 26), [ALPHABET])

    def test_two_hundred_letters(self):
        for text in LONG_TEXTS:
            self.assertEqual(len(text), 200)
            once = sorted({text[:place] + text[place + 1:] for place in range(200)})
            twice = sorted({shorter[:place] + shorter[place + 1:] for shorter in once for place in range(199)})
            self.assertEqual(pieces(text, 200), [text])
            self.assertEqual(pieces(text, 199), once)
            self.assertEqual(pieces(text, 198), twice)
            self.assertEqual(pieces(text, 1), sorted(set(text)))
            self.assertEqual(pieces(text, 0), [""])
            self.assertEqual(pieces(text, 201), [])
            self.assertEqual(pieces(text, HUGE), [])
        self.assertEqual(pieces("a" * 200, 123), ["a" * 123])
        self.assertEqual(pieces("ab" * 100, 10), plain_pieces("ab" * 10, 10))

    def test_long_pieces_of_few_kinds(self):
        listed = pieces("a" * 60 + "b" * 70 + "c" * 70, 100)
        self.assertEqual(listed, sorted(
            "a" * one + "b" * two + "c" * (100 - one - two)
            for one in range(61) for two in range(71) if 0 <= 100 - one - two <= 70
        ))

    def test_list_of_strings(self):
        listed = pieces("abcab", 2)
        self.assertIs(type(listed), list)
        self.assertEqual({type(piece) for piece in listed}, {str})

    def test_by_name(self):
        self.assertEqual(pieces(text="abc", length=2), ["ab", "ac", "bc"])
        self.assertEqual(pieces(length=2, text="abc"), ["ab", "ac", "bc"])

    def test_new_each_time(self):
        for text, length in [("abab", 2), ("abab", 0), ("abab", 4), ("abab", 5)]:
            listed = pieces(text, length)
            kept = list(listed)
            listed.append("z")
            self.assertEqual(pieces(text, length), kept)

    def test_bad_text(self):
        for value in BAD_TEXTS:
            with self.subTest(value=value):
                self.assertIs(caught(BadText, pieces, value, 1).value, value)
                self.assertIs(caught(BadText, pieces, length=1, text=value).value, value)

    def test_bad_length(self):
        for value in BAD_NUMBERS:
            for text in ("", "abcab"):
                with self.subTest(text=text, value=value):
                    self.assertIs(caught(BadLength, pieces, text, value).value, value)
                    self.assertIs(caught(BadLength, pieces, length=value, text=text).value, value)

    def test_order(self):
        for value in BAD_TEXTS:
            with self.subTest(value=value):
                self.assertIs(caught(BadText, pieces, value, -1).value, value)
                self.assertIs(caught(BadText, pieces, length=True, text=value).value, value)

    def test_arguments_are_not_changed(self):
        for values in [([1, ["a"]], 1), ("ab", [1, ["a"]])]:
            copied = repr(values)
            self.assertRaises(ValueError, pieces, *values)
            self.assertEqual(repr(values), copied)


if __name__ == "__main__":
    unittest.main()
