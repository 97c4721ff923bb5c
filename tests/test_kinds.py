import unittest
from itertools import permutations

from scatteredpieces.errors import BadLetters, BadReach, BadText, BadTimes, OtherReach
from scatteredpieces.kinds import Kind, ground, is_ground
from scatteredpieces.shortest import shortest
from tests.plain import ALPHABET, BAD_LETTERS, BAD_NUMBERS, BAD_TEXTS, HUGE, all_texts, caught, piece_set

REACHES = [0, 1, 2, 3, 4, HUGE]
SOME = all_texts("ab", 4) + ["c", "ca", "cab", "abcabc", "cbacba", "zyx", "aabbcc", "bababa"]
SIXTY = [
    "a" * 60, "ab" * 30, "ba" * 30, "abc" * 20, "cba" * 20, "a" * 30 + "b" * 30, (ALPHABET * 3)[:60],
    "".join("cab"[(n * n + n // 7) % 3] for n in range(60)), "".join("dbcaef"[(n * n // 5 + n) % 6] for n in range(60)),
]


def alike_plainly(one, other, k):
    return piece_set(one, min(k, 20)) == piece_set(other, min(k, 20))


class KindTest(unittest.TestCase):
    def test_attributes(self):
        for text, k, least in [
            ("", 0, ""), ("", 7, ""), ("ba", 0, ""), ("ba", 1, "ab"), ("ba", 2, "ba"), ("bababa", 2, "abab"),
            ("a", HUGE, "a"), (ALPHABET[::-1], 1, ALPHABET),
        ]:
            with self.subTest(text=text, k=k):
                kind = Kind(text, k)
                self.assertEqual(vars(kind), {"least": least, "k": k})
                self.assertEqual([type(kind.least), type(kind.k)], [str, int])
                self.assertEqual(vars(Kind(k=k, text=text)), {"least": least, "k": k})

    def test_least_is_the_shortest_text(self):
        for text in SOME + SIXTY:
            for k in REACHES + [9, 30, 59, 60, 61]:
                self.assertEqual(Kind(text, k).least, shortest(text, k))

    def test_equal_just_if_alike(self):
        texts = all_texts("ab", 4) + ["abc", "acb", "bac", "abab", "ababab", "bababa", "aaaaa"]
        for k in (0, 1, 2, 3, 4, 5, 6):
            for one in texts:
                for other in texts:
                    same = alike_plainly(one, other, k)
                    self.assertIs(Kind(one, k) == Kind(other, k), same, (one, other, k))
                    self.assertIs(Kind(one, k) != Kind(other, k), not same, (one, other, k))

    def test_other_reach_is_never_equal(self):
        for text in SOME:
            for k in (0, 1, 3, HUGE):
                self.assertIs(Kind(text, k) == Kind(text, k + 1), False)
                self.assertIs(Kind(text, k) != Kind(text, k + 1), True)

    def test_other_values_are_never_equal(self):
        class Like:
            least = "ab"
            k = 2

        for text, k in [("ab", 2), ("", 0), ("a", 1)]:
            kind = Kind(text, k)
            for value in BAD_TEXTS + BAD_NUMBERS + ["", "ab", "a", 2, (text, k), [text, k], {"least": text}, Like()]:
                with self.subTest(text=text, value=value):
                    self.assertIs(kind == value, False)
                    self.assertIs(value == kind, False)
                    self.assertIs(kind != value, True)
                    self.assertIs(value != kind, True)
                    self.assertNotIn(value, [kind])

    def test_bad_text(self):
        for value in BAD_TEXTS:
            for k in (0, 2, HUGE, -1, None, True, value):
                with self.subTest(value=value, k=k):
                    self.assertIs(caught(BadText, Kind, value, k).value, value)
                    self.assertIs(caught(BadText, Kind, k=k, text=value).value, value)

    def test_bad_reach(self):
        for value in BAD_NUMBERS:
            for text in ("", "a", "abab"):
                with self.subTest(value=value, text=text):
                    self.assertIs(caught(BadReach, Kind, text, value).value, value)
                    self.assertIs(caught(BadReach, Kind, k=value, text=text).value, value)

    def test_sixty_figures(self):
        for text in SIXTY:
            kind = Kind(text, HUGE)
            self.assertEqual([kind.least, kind.k], [text, HUGE])
            self.assertTrue(kind == Kind(text, HUGE))
            self.assertTrue(kind != Kind(text[:-1], HUGE))
            self.assertTrue(kind.within(kind))
            self.assertEqual(kind.idle_behind("abcdef") + kind.idle_ahead("abcdef"), "")


class BehindOneAnotherTest(unittest.TestCase):
    def test_ordinary(self):
        for one, other, k, least in [
            ("a", "b", 1, "ab"), ("b", "a", 1, "ab"), ("b", "a", 2, "ba"), ("ab", "ab", 1, "ab"),
            ("ba", "ba", 2, "abab"), ("", "ba", 2, "ba"), ("ba", "", 2, "ba"), ("", "", 3, ""), ("abc", "xyz", 0, ""),
        ]:
            with self.subTest(one=one, other=other, k=k):
                whole = Kind(one, k) + Kind(other, k)
                self.assertIs(type(whole), Kind)
                self.assertEqual([whole.least, whole.k], [least, k])

    def test_texts_behind_one_another(self):
        for k in REACHES:
            for one in SOME:
                for other in SOME:
                    self.assertTrue(Kind(one, k) + Kind(other, k) == Kind(one + other, k), (one, other, k))

    def test_alike_texts_stay_alike(self):
        for k in (1, 2):
            told = {}
            for text in all_texts("ab", 5):
                told.setdefault(Kind(text, k).least, []).append(text)
            for one in told.values():
                for other in told.values():
                    wholes = [Kind(head, k) + Kind(tail, k) for head in one[:3] for tail in other[-3:]]
                    self.assertTrue(all(whole == wholes[0] for whole in wholes))
                    self.assertTrue(alike_plainly(one[0] + other[0], one[-1] + other[-1], k))

    def test_any_brackets(self):
        kinds = [Kind(text, 2) for text in ("", "a", "ba", "cab", "abab")]
        for one in kinds:
            for other in kinds:
                for third in kinds:
                    self.assertTrue((one + other) + third == one + (other + third))

    def test_sixty_letters(self):
        for one in SIXTY:
            for k in (0, 1, 2, 5):
                whole = Kind(one, k) + Kind(one[::-1], k)
                self.assertEqual(whole.least, shortest(one + one[::-1], k))
        self.assertEqual((Kind("a" * 30, HUGE) + Kind("b" * 30, HUGE)).least, "a" * 30 + "b" * 30)

    def test_other_reach(self):
        for one, other in [(0, 1), (1, 0), (2, 3), (HUGE, HUGE - 1), (0, HUGE)]:
            for text in ("", "ab"):
                error = caught(OtherReach, lambda: Kind(text, one) + Kind(text, other))
                self.assertEqual(vars(error), {})

    def test_nothing_is_changed(self):
        one = Kind("ba", 2)
        other = Kind("ab", 2)
        whole = one + other
        self.assertEqual([one.least, other.least, whole.least], ["ba", "ab", shortest("baab", 2)])
        whole += one
        self.assertEqual([one.least, other.least, whole.least], ["ba", "ab", shortest("baabba", 2)])
        self.assertRaises(OtherReach, lambda: one + Kind("a", 1))
        self.assertEqual(vars(one), {"least": "ba", "k": 2})


class SoManyTimesTest(unittest.TestCase):
    def test_example(self):
        self.assertEqual((Kind("ba", 2) * 10 ** 30).least, "abab")

    def test_texts_so_many_times(self):
        for k in (0, 1, 2, 3, 4):
            for text in SOME:
                for times in range(k + 3):
                    many = Kind(text, k) * times
                    self.assertIs(type(many), Kind)
                    self.assertEqual(many.k, k)
                    self.assertEqual(many.least, shortest(text * times, k), (text, k, times))

    def test_one_kind_from_k_times_on(self):
        for k in (0, 1, 2, 3, 5, 8):
            for text in SOME[::2] + SIXTY[:4]:
                settled = (Kind(text, k) * k).least
                self.assertEqual(settled, shortest(text * k, k))
                for times in (k + 1, 2 * k + 5, 10 ** 30 - 1, HUGE):
                    self.assertEqual((Kind(text, k) * times).least, settled)

    def test_none_and_one(self):
        for k in REACHES:
            for text in SOME + SIXTY:
                kind = Kind(text, k)
                self.assertEqual((kind * 0).least, "")
                self.assertEqual((kind * 0).k, k)
                self.assertTrue(kind * 1 == kind)

    def test_sum_of_times(self):
        for k in (1, 2, 3):
            for text in ("a", "ba", "cab", "abba"):
                kind = Kind(text, k)
                for many in range(4):
                    for more in range(4):
                        self.assertTrue(kind * many + kind * more == kind * (many + more))
                        self.assertTrue((kind * many) * more == kind * (many * more))

    def test_great_numbers(self):
        self.assertEqual((Kind("", HUGE) * HUGE).least, "")
        self.assertEqual((Kind("a", 60) * HUGE).least, "a" * 60)
        self.assertEqual((Kind("ab", 30) * HUGE).least, "ab" * 30)
        self.assertEqual((Kind("ba", 30) * 10 ** 30).least, "ab" * 30)
        self.assertEqual((Kind("ba", HUGE) * 30).least, "ba" * 30)
        self.assertEqual((Kind("abc", 10 ** 59) * 20).least, "abc" * 20)
        self.assertEqual((Kind(ALPHABET, 2) * HUGE).least, ALPHABET * 2)
        self.assertEqual((Kind("zyx", 1) * HUGE).least, "xyz")
        self.assertEqual((Kind("zyx", 0) * HUGE).least, "")

    def test_bad_times(self):
        for value in BAD_NUMBERS:
            for text, k in [("ab", 2), ("", 0), ("a", HUGE)]:
                kind = Kind(text, k)
                with self.subTest(value=value, text=text):
                    self.assertIs(caught(BadTimes, lambda: kind * value).value, value)
                    self.assertEqual(vars(kind), {"least": text, "k": k})

    def test_a_kind_is_no_number_of_times(self):
        kind = Kind("ab", 2)
        self.assertIs(caught(BadTimes, lambda: kind * kind).value, kind)

    def test_nothing_is_changed(self):
        kind = Kind("ba", 2)
        many = kind * 3
        self.assertEqual([kind.least, kind.k, many.least, many.k], ["ba", 2, "abab", 2])


class WithinTest(unittest.TestCase):
    def test_example(self):
        self.assertIs(Kind("a", 1).within(Kind("ba", 1)), True)

    def test_plainly(self):
        texts = all_texts("ab", 4) + ["c", "abc", "cab", "abcabc", "cba", "aaaaa", "ababab"]
        for k in (0, 1, 2, 3, 4, 5):
            for one in texts:
                for other in texts:
                    wanted = piece_set(one, k) <= piece_set(other, k)
                    self.assertIs(Kind(one, k).within(Kind(other, k)), wanted, (one, other, k))

    def test_great_reach(self):
        for one in SOME:
            for other in SOME:
                wanted = piece_set(one, 20) <= piece_set(other, 20)
                self.assertIs(Kind(one, HUGE).within(Kind(other, HUGE)), wanted)

    def test_sixty_letters(self):
        for text in SIXTY:
            for k in (0, 1, 2, 3, 10, HUGE):
                kind = Kind(text, k)
                self.assertIs(kind.within(kind), True)
                self.assertIs(Kind(text[:20] + text[40:], k).within(kind), True)
                self.assertIs(Kind("", k).within(kind), True)
                self.assertIs(kind.within(Kind("", k)), k == 0)
                self.assertIs(Kind(text + "z" * 20, k).within(kind), k <= text.count("z"))
        for k in (1, 29, 30, 31, HUGE):
            self.assertIs(Kind("a" * 31, k).within(Kind("ab" * 30, k)), k <= 30)
            self.assertIs(Kind("a" + "b" * 30, k).within(Kind("ba" * 30, k)), k <= 30)

    def test_other_reach(self):
        for one, other in [(0, 1), (1, 0), (2, 3), (HUGE, HUGE - 1)]:
            for text in ("", "ab"):
                kind = Kind(text, one)
                self.assertEqual(vars(caught(OtherReach, kind.within, Kind(text, other))), {})
                self.assertEqual(vars(caught(OtherReach, kind.within, other=Kind("z", other))), {})

    def test_by_name_and_nothing_is_changed(self):
        one = Kind("a", 1)
        other = Kind("ba", 1)
        self.assertIs(one.within(other=other), True)
        self.assertIs(other.within(other=one), False)
        self.assertEqual([vars(one), vars(other)], [{"least": "a", "k": 1}, {"least": "ab", "k": 1}])


class IdleTest(unittest.TestCase):
    def test_example(self):
        self.assertEqual(Kind("abab", 2).idle_behind("abc"), "ab")

    def test_ordinary(self):
        for text, k, letters, behind_it, ahead_of_it in [
            ("", 0, "abc", "abc", "abc"), ("", 1, "abc", "", ""), ("ab", 1, "abc", "ab", "ab"),
            ("aab", 2, "ab", "", "a"), ("abb", 2, "ab", "b", ""), ("aab", 2, "bc", "", ""), ("aaab", 3, "a", "", "a"),
            ("aaa", 3, "ab", "a", "a"), ("aaa", 4, "ab", "", ""), ("ab", 0, ALPHABET, ALPHABET, ALPHABET),
            ("zyx", 1, ALPHABET, "xyz", "xyz"), ("ab", HUGE, "ab", "", ""), ("abcabc", 2, "bd", "b", "b"),
        ]:
            with self.subTest(text=text, k=k, letters=letters):
                kind = Kind(text, k)
                self.assertEqual([kind.idle_behind(letters), kind.idle_ahead(letters)], [behind_it, ahead_of_it])

    def test_plainly(self):
        for text in all_texts("ab", 5) + SOME:
            for k in (0, 1, 2, 3, 4):
                kind = Kind(text, k)
                for letters in ("a", "ab", "abc", "bcz"):
                    held = piece_set(text, k)
                    behind_it = "".join([letter for letter in letters if piece_set(text + letter, k) == held])
                    ahead_of_it = "".join([letter for letter in letters if piece_set(letter + text, k) == held])
                    self.assertEqual(kind.idle_behind(letters), behind_it, (text, k))
                    self.assertEqual(kind.idle_ahead(letters), ahead_of_it, (text, k))

    def test_sixty_letters(self):
        for text in SIXTY:
            for k in (0, 1, 2, 7, HUGE):
                kind = Kind(text, k)
                behind_it = [letter for letter in "abcfz" if Kind(text + letter, k) == kind]
                ahead_of_it = [letter for letter in "abcfz" if Kind(letter + text, k) == kind]
                self.assertEqual(kind.idle_behind("abcfz"), "".join(behind_it))
                self.assertEqual(kind.idle_ahead("abcfz"), "".join(ahead_of_it))
                self.assertEqual(set(kind.idle_behind(ALPHABET)) & set("abcfz"), set(behind_it))
                self.assertEqual(set(kind.idle_ahead(ALPHABET)) & set("abcfz"), set(ahead_of_it))

    def test_bad_letters(self):
        for text, k in [("", 0), ("ab", 2), ("ab", HUGE)]:
            kind = Kind(text, k)
            for value in BAD_LETTERS:
                with self.subTest(text=text, value=value):
                    for method in (kind.idle_behind, kind.idle_ahead):
                        self.assertIs(caught(BadLetters, method, value).value, value)
                        self.assertIs(caught(BadLetters, method, letters=value).value, value)

    def test_by_name_and_nothing_is_changed(self):
        kind = Kind("abb", 2)
        self.assertEqual([kind.idle_behind(letters="ab"), kind.idle_ahead(letters="ab")], ["b", ""])
        self.assertEqual(vars(kind), {"least": "abb", "k": 2})


# How many kinds there are, as is known of them.
MANY = [
    ("a", 0, 1), ("ab", 0, 1), (ALPHABET, 0, 1), ("a", 1, 2), ("z", 5, 6), ("a", 60, 61), ("ab", 1, 4), ("ab", 2, 16),
    ("ab", 3, 68), ("ab", 4, 312), ("xz", 4, 312), ("abc", 1, 8), ("abc", 2, 152), ("mno", 2, 152), ("abcd", 1, 16),
    ("abcde", 1, 32), ("abcdef", 1, 64), ("bdfhjl", 1, 64),
]


def plain_ground(letters, k, longest):
    """List the first one of each kind among all texts of at most so many letters, in their order."""
    first = {}
    for text in all_texts(letters, longest):
        first.setdefault(piece_set(text, k), text)
    return list(first.values())


class GroundTest(unittest.TestCase):
    def test_example(self):
        self.assertEqual([ground("ab", 1), len(ground("ab", 2))], [["", "a", "b", "ab"], 16])

    def test_how_many(self):
        for letters, k, many in MANY:
            with self.subTest(letters=letters, k=k):
                found = ground(letters, k)
                self.assertIs(type(found), list)
                self.assertEqual(len(found), many)
                self.assertEqual(found, sorted(set(found), key=lambda text: (len(text), text)))
                self.assertIs(is_ground(letters, k, found), True)

    def test_closed(self):
        for letters, k, _ in MANY:
            found = ground(letters, k)
            known = set(found)
            self.assertEqual(found[0], "")
            for text in found:
                self.assertEqual(shortest(text, k), text)
                for letter in letters:
                    self.assertIn(shortest(text + letter, k), known)
                    self.assertIn(shortest(letter + text, k), known)

    def test_plainly(self):
        for letters, k, longest in [
            ("a", 0, 5), ("a", 3, 9), ("ab", 0, 5), ("ab", 1, 6), ("ab", 2, 8), ("ab", 3, 9), ("abc", 1, 6),
            ("abcd", 1, 6), ("xyz", 1, 5),
        ]:
            with self.subTest(letters=letters, k=k):
                self.assertEqual(ground(letters, k), plain_ground(letters, k, longest))

    def test_it_settles_what_is_asked_of_all_texts(self):
        for letters, k in [("ab", 2), ("ab", 3), ("abc", 1), ("abc", 2)]:
            known = ground(letters, k)
            for text in all_texts(letters, 6):
                self.assertIn(shortest(text, k), known)

    def test_new_each_time(self):
        for letters, k in [("ab", 1), ("a", 0), ("abc", 2)]:
            found = ground(letters, k)
            kept = list(found)
            found.append("x")
            found[0] = "y"
            self.assertEqual(ground(letters, k), kept)

    def test_by_name(self):
        self.assertEqual(ground(letters="ab", k=1), ["", "a", "b", "ab"])
        self.assertEqual(ground(k=1, letters="ab"), ["", "a", "b", "ab"])
        self.assertIs(is_ground(letters="ab", k=1, value=["", "a", "b", "ab"]), True)
        self.assertIs(is_ground(value=["", "a", "b"], k=1, letters="ab"), False)

    def test_bad_letters(self):
        for value in BAD_LETTERS:
            for k in (0, 1, HUGE, -1, True, None, value):
                with self.subTest(value=value, k=k):
                    self.assertIs(caught(BadLetters, ground, value, k).value, value)
                    self.assertIs(caught(BadLetters, ground, k=k, letters=value).value, value)
                    self.assertIs(caught(BadLetters, is_ground, value, k, [""]).value, value)
                    self.assertIs(caught(BadLetters, is_ground, value=value, k=k, letters=value).value, value)

    def test_bad_reach(self):
        for value in BAD_NUMBERS:
            with self.subTest(value=value):
                for letters in ("a", "ab", ALPHABET):
                    self.assertIs(caught(BadReach, ground, letters, value).value, value)
                    self.assertIs(caught(BadReach, ground, k=value, letters=letters).value, value)
                    for other in ([""], None, value):
                        self.assertIs(caught(BadReach, is_ground, letters, value, other).value, value)
                        self.assertIs(caught(BadReach, is_ground, value=other, k=value, letters=letters).value, value)


class IsGroundTest(unittest.TestCase):
    def test_any_sequence(self):
        for listed in permutations(["", "a", "b", "ab"]):
            self.assertIs(is_ground("ab", 1, list(listed)), True)
        for letters, k in [("ab", 3), ("ab", 4), ("abc", 2), ("abcd", 1), ("a", 20)]:
            found = ground(letters, k)
            for listed in (found[::-1], sorted(found), sorted(found, reverse=True), found[1:] + found[:1]):
                self.assertIs(is_ground(letters, k, listed), True)

    def test_changed_lists(self):
        for letters, k in [("a", 0), ("a", 2), ("ab", 0), ("ab", 1), ("ab", 2), ("abc", 1), ("xz", 2)]:
            found = ground(letters, k)
            right = set(found)
            more = all_texts(letters, 4) + ["c", "cc", "z", "A", " ", "ab ", "a\n", 0, 1, True, None, (), [], ["a"], {}]
            changed = [found + [text] for text in more] + [[text] + found for text in more]
            for place in range(len(found)):
                changed.append(found[:place] + found[place + 1:])
                changed += [found[:place] + [text] + found[place + 1:] for text in more]
                changed += [found[:place] + [found[place]] + found[place:], found[:place], found[place:]]
                changed += [found[:place] + [other] + found[place + 1:] for other in (
                    (found[place],), [found[place]], found[place] + "!", found[place].upper() + "A",
                )]
            for value in changed:
                plain = all(type(text) is str for text in value)
                wanted = plain and len(value) == len(found) and set(value) == right
                with self.subTest(letters=letters, k=k, value=value):
                    self.assertIs(is_ground(letters, k, value), wanted)

    def test_other_reaches_and_letters(self):
        asked = [("a", 0), ("a", 1), ("a", 2), ("ab", 0), ("ab", 1), ("ab", 2), ("abc", 1), ("b", 1), ("ac", 1)]
        listed = {each: ground(*each) for each in asked}
        for letters, k in asked:
            for value in listed.values():
                wanted = sorted(value) == sorted(listed[letters, k])
                self.assertIs(is_ground(letters, k, value), wanted, (letters, k, value))

    def test_greater_closed_lists(self):
        # Closed under letters behind, but with texts that are not their own shortest ones, or with another letter.
        self.assertIs(is_ground("ab", 1, ["", "a", "b", "ab", "ba"]), False)
        self.assertIs(is_ground("ab", 1, ["", "a", "b", "ab", "aa"]), False)
        self.assertIs(is_ground("ab", 1, all_texts("ab", 3)), False)
        self.assertIs(is_ground("ab", 1, ground("abc", 1)), False)
        self.assertIs(is_ground("a", 1, ground("ab", 1)), False)
        self.assertIs(is_ground("ab", 1, ground("ab", 2)), False)
        self.assertIs(is_ground("ab", 2, ground("ab", 1)), False)
        # Closed, but without the empty text.
        self.assertIs(is_ground("ab", 1, ["ab"]), False)
        self.assertIs(is_ground("ab", 1, ["a", "b", "ab"]), False)
        self.assertIs(is_ground("ab", 0, []), False)

    def test_values_of_any_kind(self):
        for value in BAD_TEXTS + BAD_NUMBERS + [
            "", "ab", 0, 1, HUGE, (), ("", "a", "b", "ab"), {"": 0, "a": 1, "b": 2, "ab": 3}, ["", "a", "b", ("ab",)],
            [["", "a", "b", "ab"]], ["", "a", "b", None], ["", "a", "b", 0], ["", "a", "b", True], [None] * 4,
            ["", "a", "b", "AB"], ["", "a", "b", ["ab"]], [[], "a", "b", "ab"], ["", "a", "b", {}], Kind("ab", 1),
            [Kind("", 1), Kind("a", 1), Kind("b", 1), Kind("ab", 1)], ["", "a", "b", Kind("ab", 1)], [""],
        ]:
            with self.subTest(value=value):
                self.assertIs(is_ground("ab", 1, value), False)
                self.assertIs(is_ground("a", HUGE, value), False)
                self.assertIs(is_ground("ab", 0, value), type(value) is list and value == [""])

    def test_great_values(self):
        long = ["a" * 200, "ab" * 100, "b" * 500]
        for value in [long, [""] + long, ground("ab", 4) + long, ["ab" * 3000], [""] * 5000, list(range(5000))]:
            self.assertIs(is_ground("ab", 4, value), False)
        for k in (10 ** 30, HUGE):
            self.assertIs(is_ground("ab", k, ground("ab", 4)), False)
            self.assertIs(is_ground("ab", k, [""]), False)

    def test_value_is_not_changed(self):
        for value in [["b", "", "ab", "a"], [["a"], {"a": [0]}], ["", "a"]]:
            copied = repr(value)
            is_ground("ab", 1, value)
            self.assertEqual(repr(value), copied)


if __name__ == "__main__":
    unittest.main()
