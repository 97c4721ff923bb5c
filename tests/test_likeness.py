import unittest

from scatteredpieces.counts import counts
from scatteredpieces.errors import BadReach, BadText
from scatteredpieces.likeness import alike, is_table, likeness, parting, table
from scatteredpieces.texts import holds, pieces
from tests.plain import (
    ALPHABET, BAD_NUMBERS, BAD_TEXTS, HUGE, LONG_TEXTS, all_texts, caught, piece_set,
)

# Pairs of texts of two hundred letters, or about as many, with their likeness.
LONG_PAIRS = [
    ("a" * 200, "a" * 199, 199), ("a" * 200, "b" * 200, 0), ("ab" * 100, "ab" * 99, 99), ("ab" * 100, "ba" * 100, 100),
    ("abc" * 66, "abc" * 65, 65), ("a" * 200, "", 0), ("a" * 100 + "b" * 100, "b" * 100 + "a" * 100, 1),
    (ALPHABET * 7, ALPHABET * 6, 6), (ALPHABET * 7 + "abc", ALPHABET * 7, 7), ("ab" * 99 + "ba", "ab" * 100, 100),
    ("a" * 100 + "b" * 100, "a" * 100 + "b" * 99, 99), ("ab" * 50 + "a" * 100, "ab" * 50 + "a" * 99, 149),
]
SHORT = all_texts("ab", 5) + all_texts("abc", 3)[15:] + ["zy", "yz", "abcabc", "abcacb", "bacabc", "aabbab", "abbaab"]


def plain_parting(one, other):
    parted = piece_set(one, len(one)) ^ piece_set(other, len(other))
    return min(parted, key=lambda piece: (len(piece), piece), default=None)


def is_plain_entry(one, other, pair, number):
    if type(pair) is not tuple or [type(place) for place in pair] != [int, int]:
        return False
    return 0 <= pair[0] <= len(one) and 0 <= pair[1] <= len(other) and type(number) is int and number >= 0


def is_plain_table(one, other, k, value):
    """Tell by the words of the document, one after the other, whether any value is a table."""
    if type(value) is not dict or not all(is_plain_entry(one, other, *entry) for entry in value.items()):
        return False
    if (0, 0) not in value or value[0, 0] != 0:
        return False
    for (i, j), number in value.items():
        for letter in set(one[i:] + other[j:]):
            if number < k:
                if letter not in one[i:] or letter not in other[j:]:
                    return False
                target = (one.index(letter, i) + 1, other.index(letter, j) + 1)
                if target not in value or value[target] > number + 1:
                    return False
    return True


class PartingTest(unittest.TestCase):
    """parting, likeness and alike."""

    def test_example(self):
        self.assertEqual([parting("abab", "ababab"), likeness("abab", "ababab")], ["aaa", 2])
        self.assertIs(alike("ab", "ba", 1), True)
        self.assertEqual([alike("abab", "ababab", k) for k in (2, 3)], [True, False])

    def test_ordinary(self):
        for one, other, parted in [
            ("", "a", "a"), ("", "ba", "a"), ("", "b", "b"), ("a", "b", "a"), ("ab", "ba", "ab"), ("a", "aa", "aa"),
            ("abab", "baba", "abb"), ("aba", "ab", "aa"), ("abc", "acb", "bc"), ("cab", "cba", "ab"), ("b", "ab", "a"),
            ("abb", "aab", "aa"), ("banana", "bananas", "s"), ("banana", "banan", "aaa"), ("zz", "zzz", "zzz"),
            ("abba", "abab", "aba"), ("abcabc", "abccba", "bac"), ("xy", "xyx", "xx"), ("ab", "cd", "a"),
        ]:
            with self.subTest(one=one, other=other):
                wanted = plain_parting(one, other)
                self.assertEqual(parting(one, other), wanted)
                self.assertEqual(parting(other, one), wanted)
                self.assertEqual(len(parted), len(wanted))
                self.assertIsNot(holds(one, wanted), holds(other, wanted))

    def test_same_text(self):
        for text in ["", "a", "abab", "zyx", ALPHABET] + LONG_TEXTS:
            self.assertIsNone(parting(text, text))
            self.assertIsNone(likeness(text, text))
            for k in (0, 1, 5, 200, 201, HUGE):
                self.assertIs(alike(text, text, k), True)

    def test_plainly(self):
        held = {text: piece_set(text, len(text)) for text in SHORT}
        for one in SHORT:
            for other in SHORT:
                parted = min(held[one] ^ held[other], key=lambda piece: (len(piece), piece), default=None)
                self.assertEqual(parting(one, other), parted, (one, other))
                if one == other:
                    self.assertIsNone(parted)
                    self.assertIsNone(likeness(one, other))
                    continue
                self.assertEqual(likeness(one, other), len(parted) - 1)
                for k in (0, 1, 2, 3, 4, 5, 6, HUGE):
                    self.assertIs(alike(one, other, k), k < len(parted), (one, other, k))

    def test_least_one_counts_not_the_first_text(self):
        # The least text may be a piece of the one or of the other text.
        self.assertEqual([parting("abb", "baa"), parting("baa", "abb")], ["aa", "aa"])
        self.assertEqual([parting("bbc", "bca"), parting("bca", "bbc")], ["a", "a"])
        self.assertEqual([parting("ac", "bc"), parting("zab", "zba")], ["a", "ab"])

    def test_rounds(self):
        for word in ("a", "ab", "ba", "abc", "cab", "abcd", ALPHABET):
            for times in range(200 // len(word) - 1):
                one = word * times
                other = word * (times + 1)
                self.assertEqual(parting(one, other), min(word) * (times + 1))
                self.assertEqual(likeness(other, one), times)
                self.assertIs(alike(one, other, times), True)
                self.assertIs(alike(one, other, times + 1), False)

    def test_text_and_piece(self):
        for text in SHORT + LONG_TEXTS:
            for place in sorted({0, len(text) // 2, len(text) - 1} - {-1, len(text)}):
                piece = text[:place] + text[place + 1:]
                parted = parting(text, piece)
                self.assertTrue(holds(text, parted))
                self.assertFalse(holds(piece, parted))
                self.assertEqual(likeness(piece, text), len(parted) - 1)

    def test_two_hundred_letters(self):
        for one, other, greatest in LONG_PAIRS:
            for first, second in [(one, other), (other, one)]:
                with self.subTest(first=first, second=second):
                    self.assertEqual(likeness(first, second), greatest)
                    parted = parting(first, second)
                    self.assertEqual(len(parted), greatest + 1)
                    self.assertIsNot(holds(one, parted), holds(other, parted))
                    for k in (0, greatest - 1, greatest, greatest + 1, greatest + 2, 200, HUGE):
                        if k >= 0:
                            self.assertIs(alike(first, second, k), k <= greatest)

    def test_two_hundred_letters_listed(self):
        for one in LONG_TEXTS:
            for other in LONG_TEXTS + [one[1:], one[:-1], one[::-1], one[:99] + one[100:], one[:50] + one[49:199]]:
                if one == other:
                    continue
                parted = parting(one, other)
                for text in (one, other):
                    if len(parted) <= len(text) and counts(text)[len(parted)] > 5000:
                        break
                else:
                    unlike = set(pieces(one, len(parted))) ^ set(pieces(other, len(parted)))
                    self.assertEqual(parted, min(unlike))
                    self.assertEqual(pieces(one, len(parted) - 1), pieces(other, len(parted) - 1))

    def test_no_reach_parts_no_texts(self):
        for one in SHORT:
            self.assertIs(alike(one, "", 0), True)
            self.assertIs(alike(one, "zzz", 0), True)

    def test_goes_on_from_text_to_text(self):
        texts = all_texts("ab", 4)
        for k in range(4):
            groups = {}
            for text in texts:
                groups.setdefault(piece_set(text, k), []).append(text)
            for group in groups.values():
                for one in texts:
                    self.assertEqual([alike(one, other, k) for other in group], [one in group] * len(group))

    def test_stays_with_what_is_put_behind_and_ahead(self):
        texts = all_texts("ab", 4)
        for k in range(4):
            for one in texts:
                for other in texts:
                    if alike(one, other, k):
                        for more in ("a", "ba", "abc", "bbab"):
                            self.assertIs(alike(one + more, other + more, k), True)
                            self.assertIs(alike(more + one, more + other, k), True)
                            self.assertIs(alike(more + one + more, more + other + more, k), True)

    def test_kinds_of_answers(self):
        self.assertIs(type(parting("ab", "ba")), str)
        self.assertIs(type(likeness("ab", "ba")), int)
        self.assertEqual([likeness("", "a"), likeness("ab", "ba")], [0, 1])

    def test_by_name(self):
        self.assertEqual(parting(one="ab", other="aba"), "aa")
        self.assertEqual(parting(other="ab", one="aba"), "aa")
        self.assertEqual(likeness(other="ab", one="aba"), 1)
        self.assertIs(alike(k=1, other="ab", one="aba"), True)
        self.assertIs(alike(one="ab", k=2, other="aba"), False)


class TableTest(unittest.TestCase):
    """table and is_table for what is a table."""

    def test_example(self):
        self.assertIs(is_table("ab", "ba", 1, {(0, 0): 0, (1, 2): 1, (2, 1): 1}), True)

    def test_plainly(self):
        for one in SHORT[::2]:
            for other in SHORT:
                for k in (0, 1, 2, 3, HUGE):
                    found = table(one, other, k)
                    if alike(one, other, k):
                        self.assertTrue(is_plain_table(one, other, k, found), (one, other, k, found))
                        self.assertIs(is_table(one, other, k, found), True)
                    else:
                        self.assertIsNone(found)
                        self.assertIs(is_table(one, other, k, {(0, 0): 0}), False)

    def test_no_table_of_all_pairs_if_unlike(self):
        # Where texts are unlike, pairs and numbers of all kinds show nothing.
        for one in all_texts("ab", 3):
            for other in all_texts("ab", 3):
                for number in (0, 1, 2, 3, HUGE):
                    value = {(i, j): number for i in range(len(one) + 1) for j in range(len(other) + 1)}
                    value[0, 0] = 0
                    for k in range(4):
                        wanted = is_plain_table(one, other, k, value)
                        self.assertIs(is_table(one, other, k, value), wanted, (one, other, k, value))
                        if wanted:
                            self.assertIs(alike(one, other, k), True)

    def test_two_hundred_letters(self):
        for one, other, greatest in LONG_PAIRS:
            for k in (0, greatest // 2, greatest):
                found = table(one, other, k)
                self.assertTrue(is_plain_table(one, other, k, found))
                self.assertIs(is_table(one, other, k, found), True)
            for k in (greatest + 1, greatest + 2, HUGE):
                self.assertIsNone(table(one, other, k))
                self.assertIs(is_table(one, other, k, found), False)

    def test_same_text(self):
        for text in ["", "a", "abab", ALPHABET] + LONG_TEXTS:
            for k in (0, 1, 3, 199, 200, HUGE):
                found = table(text, text, k)
                self.assertTrue(is_plain_table(text, text, k, found))
                self.assertIs(is_table(text, text, k, found), True)
            self.assertIs(is_table(text, text, HUGE, {(place, place): 0 for place in range(len(text) + 1)}), True)

    def test_reach_of_zero(self):
        for one, other in [("", ""), ("a", "b"), ("", "abc"), ("q" * 200, "z" * 200)]:
            self.assertEqual(table(one, other, 0)[0, 0], 0)
            self.assertIs(is_table(one, other, 0, {(0, 0): 0}), True)
            self.assertIs(is_table(one, other, 0, {(0, 0): 1}), False)
            self.assertIs(is_table(one, other, 0, {}), False)
            self.assertIs(is_table(one, other, 0, {(0, len(other)): 0, (len(one), 0): HUGE, (0, 0): 0}), True)
            self.assertIs(is_table(one, other, 1, {(0, 0): 0}), one == other)

    def test_kinds_of_answers(self):
        found = table("abab", "ababab", 2)
        self.assertIs(type(found), dict)
        self.assertEqual({type(number) for number in found.values()}, {int})
        self.assertEqual({type(pair) for pair in found}, {tuple})
        self.assertEqual({type(place) for pair in found for place in pair}, {int})

    def test_new_each_time(self):
        for one, other, k in [("abab", "ababab", 2), ("", "", 5), ("a", "b", 0)]:
            found = table(one, other, k)
            kept = {pair: found[pair] for pair in found}
            found[9, 9] = -1
            found[0, 0] = 7
            self.assertEqual(table(one, other, k), kept)

    def test_sequence_of_keys_has_no_meaning(self):
        found = table("abab", "ababab", 2)
        for pairs in (sorted(found), sorted(found, reverse=True)):
            self.assertIs(is_table("abab", "ababab", 2, {pair: found[pair] for pair in pairs}), True)

    def test_by_name(self):
        found = table(one="ab", other="ba", k=1)
        self.assertEqual(table(k=1, other="ba", one="ab"), found)
        self.assertIs(is_table(one="ab", other="ba", k=1, value=found), True)
        self.assertIs(is_table(value=found, k=2, other="ba", one="ab"), False)


def changed_tables(found, one, other, k):
    """List the table with parts exchanged, left out and put in."""
    changed = [{pair: found[pair] for pair in found if pair != gone} for gone in found]
    numbers = [0, 1, 2, 3, k, k + 1, -1, HUGE, -HUGE, True, False, None, "1", "", "a", [1], (1,), {}, {0: 1}]
    changed += [{**found, pair: number} for pair in found for number in numbers]
    for i, j in found:
        left = {pair: found[pair] for pair in found if pair != (i, j)}
        keys = [
            (j, i), (i, j, 0), (i,), (), i, str(i), "ab", None, (i, None), ("a", j), (i, (j,)), ((i, j),),
            (str(i), str(j)), (-i - 1, j), (i, -j - 1), (i + 1, j), (i, j + 1), (bool(i), j), (i, bool(j)),
            (bool(i), bool(j)),
        ]
        changed += [{**left, key: found[i, j]} for key in keys]
    more = [
        (len(one) + 1, 0), (0, len(other) + 1), (len(one), len(other)), (len(one), 0), (0, len(other)), (1, 1), (2, 1),
        (HUGE, 0), (0, HUGE), (-1, 0), (0, -1), (0, 0, 0), "", "ab", (), None, 0, True, (True, True), ("", ""),
        (1, "1"), (None, None), ((0, 0), 0),
    ]
    changed += [{**found, key: number} for key in more for number in (0, k, k + 1, HUGE) if key not in found]
    return changed


class OtherTableTest(unittest.TestCase):
    """is_table for values of any kind."""

    def test_changed_tables(self):
        for one, other, k in [
            ("abab", "ababab", 2), ("ab", "ba", 1), ("abcabc", "abccba", 2), ("aab", "aab", 3), ("aaaa", "aaa", 3),
            ("", "", 2), ("ab", "ba", 0), ("abba", "abba", HUGE), ("banana", "bananan", 2),
        ]:
            found = table(one, other, k)
            answers = []
            for value in changed_tables(found, one, other, k):
                wanted = is_plain_table(one, other, k, value)
                answers.append(wanted)
                with self.subTest(one=one, other=other, k=k, value=value):
                    self.assertIs(is_table(one, other, k, value), wanted)
            self.assertIn(False, answers)

    def test_tables_that_are_not_least(self):
        least = {(0, 0): 0, (1, 2): 1, (2, 1): 1}
        for more, right in [
            ({(1, 2): 0, (2, 1): 1}, False), ({(2, 2): 0}, True), ({(2, 2): 1}, True), ({(2, 2): HUGE}, True),
            ({(1, 1): 0}, False), ({(1, 1): 1}, True), ({(1, 1): 5}, True), ({(1, 2): 2}, False), ({(2, 1): 2}, False),
            ({(0, 1): 0}, False), ({(0, 1): 1}, True), ({(0, 0): 1}, False), ({(1, 2): 0, (2, 2): 1}, False),
        ]:
            with self.subTest(more=more):
                value = {**least, **more}
                self.assertIs(is_plain_table("ab", "ba", 1, value), right)
                self.assertIs(is_table("ab", "ba", 1, value), right)
        every = {(i, j): 0 if i == j else 1 for i in range(5) for j in range(5)}
        for k in (0, 1, 2, HUGE):
            self.assertIs(is_table("abab", "abab", k, every), k < 2)
        self.assertIs(is_table("abab", "abab", HUGE, {(i, i): 0 for i in range(5)}), True)
        self.assertIs(is_table("abab", "abab", 4, {(i, i): (i + 1) // 2 for i in range(5)}), True)
        self.assertIs(is_table("abab", "abab", 4, {(i, i): i for i in range(5)}), False)
        self.assertIs(is_table("abab", "abab", 4, {(i, i): 4 * (i > 0) for i in range(5)}), False)

    def test_bools_are_no_integers(self):
        for value in [
            {(0, 0): False}, {(False, 0): 0}, {(0, False): 0}, {(False, False): False},
            {(0, 0): 0, (True, 2): 1, (2, 1): 1}, {(0, 0): 0, (1, 2): True, (2, 1): 1},
            {(0, 0): 0, (1, 2): 1, (2, True): 1},
        ]:
            for k in (0, 1):
                with self.subTest(value=value, k=k):
                    self.assertIs(is_table("ab", "ba", k, value), False)

    def test_values_of_any_kind(self):
        for value in BAD_TEXTS + BAD_NUMBERS + [
            "", "ab", 0, 1, HUGE, {}, [], [((0, 0), 0)], ((0, 0), 0), {0: 0}, {"": 0}, {"ab": 1}, {(): 0}, {(0,): 0},
            {(0, 0): None}, {(0, 0): "0"}, {(0, 0): [0]}, {(0, 0): (0,)}, {(0, 0): {}}, {((0, 0),): 0}, {None: 0},
            {(0, 0, 0): 0}, {("0", "0"): 0}, {(0, 0): -1}, {"(0, 0)": 0}, [(0, 0)], [[0, 0, 0]], {(0, 0): 0, "a": "b"},
        ]:
            for one, other, k in [("ab", "ba", 0), ("ab", "ba", 1), ("", "", HUGE), ("aab", "aab", 2)]:
                with self.subTest(value=value, k=k):
                    self.assertIs(is_table(one, other, k, value), False)

    def test_tables_of_other_texts_and_reaches(self):
        texts = ["", "a", "ab", "ba", "aba", "abab", "baba", "ababab", "bb"]
        tables = [table(one, other, k) for one in texts for other in texts for k in (0, 1, 2, 3)]
        tables = [found for place, found in enumerate(tables) if found not in tables[:place]]
        for one in texts:
            for other in texts:
                for k in (0, 1, 2, 3):
                    for value in tables:
                        wanted = is_plain_table(one, other, k, value)
                        self.assertIs(is_table(one, other, k, value), wanted, (one, other, k, value))

    def test_great_values(self):
        one = LONG_TEXTS[5]
        every = {(i, j): HUGE for i in range(201) for j in range(201)}
        self.assertIs(is_table(one, one, HUGE, {**every, (0, 0): 0}), False)
        self.assertIs(is_table(one, one, HUGE, {**every, **table(one, one, HUGE)}), True)
        self.assertIs(is_table(one, one, 0, {**every, (0, 0): 0}), True)
        self.assertIs(is_table(one, one, HUGE, {pair: 0 for pair in every}), False)
        self.assertIs(is_table(one, one, 0, {**every, (0, 0): 0, (201, 0): HUGE}), False)

    def test_arguments_are_not_changed(self):
        for value in [table("abab", "ababab", 2), {(0, 0): [0]}, [[(0, 0)]], {(0, 0): 0, (1, 2): {}}]:
            copied = repr(value)
            is_table("abab", "ababab", 2, value)
            self.assertRaises(BadText, is_table, value, "a", 1, value)
            self.assertRaises(BadReach, is_table, "a", "a", value, value)
            self.assertEqual(repr(value), copied)


class LikenessErrorTest(unittest.TestCase):
    def test_bad_text(self):
        for value in BAD_TEXTS:
            with self.subTest(value=value):
                for function in (parting, likeness):
                    self.assertIs(caught(BadText, function, value, "a").value, value)
                    self.assertIs(caught(BadText, function, "a", value).value, value)
                    self.assertIs(caught(BadText, function, other="", one=value).value, value)
                    self.assertIs(caught(BadText, function, other=value, one="").value, value)
                for function in (alike, table):
                    for k in (0, 1, HUGE):
                        self.assertIs(caught(BadText, function, value, "a", k).value, value)
                        self.assertIs(caught(BadText, function, "a", value, k).value, value)
                        self.assertIs(caught(BadText, function, k=k, other=value, one="b").value, value)
                self.assertIs(caught(BadText, is_table, value, "a", 1, {}).value, value)
                self.assertIs(caught(BadText, is_table, "a", value, 1, {(0, 0): 0}).value, value)
                self.assertIs(caught(BadText, is_table, value=None, k=0, other="", one=value).value, value)

    def test_bad_reach(self):
        for value in BAD_NUMBERS:
            for one, other in [("", ""), ("ab", "ab"), ("ab", "ba"), ("", "abc")]:
                with self.subTest(one=one, other=other, value=value):
                    for function in (alike, table):
                        self.assertIs(caught(BadReach, function, one, other, value).value, value)
                        self.assertIs(caught(BadReach, function, k=value, other=other, one=one).value, value)
                    for any_value in ({(0, 0): 0}, None, {}, "a"):
                        self.assertIs(caught(BadReach, is_table, one, other, value, any_value).value, value)
                        self.assertIs(
                            caught(BadReach, is_table, value=any_value, k=value, other=other, one=one).value, value)

    def test_order(self):
        for value in BAD_TEXTS:
            with self.subTest(value=value):
                for function in (parting, likeness):
                    self.assertIs(caught(BadText, function, value, 5).value, value)
                    self.assertIs(caught(BadText, function, other=5, one=value).value, value)
                for function in (alike, table):
                    self.assertIs(caught(BadText, function, value, 5, None).value, value)
                    self.assertIs(caught(BadText, function, "a", value, True).value, value)
                    self.assertIs(caught(BadText, function, k=-1, other=5, one=value).value, value)
                self.assertIs(caught(BadText, is_table, value, 5, None, 3).value, value)
                self.assertIs(caught(BadText, is_table, "", value, -1, {}).value, value)
                self.assertIs(caught(BadText, is_table, value={}, k="", other=None, one=value).value, value)

    def test_arguments_are_not_changed(self):
        for function in (alike, table):
            for values in [([["a"]], "a", 1), ("a", [["a"]], 1), ("a", "a", [["a"]])]:
                copied = repr(values)
                self.assertRaises(ValueError, function, *values)
                self.assertEqual(repr(values), copied)


if __name__ == "__main__":
    unittest.main()
