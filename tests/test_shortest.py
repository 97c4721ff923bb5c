import unittest

from scatteredpieces.errors import BadReach, BadStep, BadText
from scatteredpieces.likeness import alike
from scatteredpieces.shortest import are_steps, shortest, spare_places, stepped, steps
from scatteredpieces.ways import ahead, behind
from tests.plain import ALPHABET, BAD_NUMBERS, BAD_TEXTS, HUGE, all_texts, caught, piece_set

FALLING = ALPHABET[::-1]
SIXTY = [
    "a" * 60, "ab" * 30, "ba" * 30, "abc" * 20, "cba" * 20, "a" * 30 + "b" * 30, "b" * 30 + "a" * 30, "abba" * 15,
    (FALLING * 3)[:60], (ALPHABET * 3)[:60], FALLING[:20] + ALPHABET[:20] + FALLING[:20],
    FALLING + ALPHABET + "hgfedcba",
    "".join("cab"[(n * n + n // 7) % 3] for n in range(60)), "".join(ALPHABET[n * n * n % 23] for n in range(60)),
    "".join("dbcaef"[(n * n // 5 + n) % 6] for n in range(60)),
]
SOME = all_texts("ab", 5) + all_texts("abc", 4)[31:] + ["zyx", "cbacba", "abcabcabc", "ababab", "dcba", "babcab"]
REACHES = [0, 1, 2, 3, 4, 5, 6, HUGE]


def plain_step(text, k, step):
    """Give the text behind the step by the words of the document, None if the text can't do it."""
    if type(step) is not tuple or len(step) not in (2, 3) or type(step[0]) is not str or type(step[1]) is not int:
        return None
    word, place = step[:2]
    if place < 0:
        return None
    if word == "in" and len(step) == 3 and type(step[2]) is str and step[2] in list(ALPHABET) and place <= len(text):
        longer = text[:place] + step[2] + text[place:]
        return longer if ahead(longer)[place] + behind(longer)[place] > k + 1 else None
    if word == "out" and len(step) == 2 and place < len(text):
        return text[:place] + text[place + 1:] if ahead(text)[place] + behind(text)[place] > k + 1 else None
    if word == "swap" and len(step) == 2 and place < len(text) - 1 and text[place] != text[place + 1]:
        ways = set(zip(ahead(text)[place:place + 2], behind(text)[place:place + 2]))
        if len(ways) == 1 and sum(min(ways)) == k + 1:
            return text[:place] + text[place + 1] + text[place] + text[place + 2:]
    return None


def all_steps(text, letters):
    """List the steps of all kinds at all places and about them."""
    places = range(-2, len(text) + 3)
    found = [(word, place) for word in ("out", "swap") for place in places]
    return found + [("in", place, letter) for place in places for letter in letters]


def plain_lead(one, other, k, value):
    """Tell by the words of the document whether any value is steps from the one text to the other one."""
    if type(value) is not list:
        return False
    for step in value:
        if one is not None:
            one = plain_step(one, k, step)
    return one == other


class SpareTest(unittest.TestCase):
    def test_example(self):
        self.assertEqual(spare_places("ababab", 2), [0, 1, 2, 3, 4, 5])

    def test_ordinary(self):
        for text, k, listed in [
            ("", 0, []), ("", 5, []), ("a", 0, [0]), ("a", 1, []), ("ab", 0, [0, 1]), ("ab", 1, []), ("aa", 1, [0, 1]),
            ("aa", 2, []), ("aba", 1, [0, 2]), ("aba", 2, []), ("aaa", 2, [0, 1, 2]), ("aabaa", 2, [0, 1, 3, 4]),
            ("aabaa", 3, []), ("abab", 2, []), ("abcab", 1, [0, 1, 3, 4]), ("abcab", HUGE, []),
        ]:
            with self.subTest(text=text, k=k):
                self.assertEqual(spare_places(text, k), listed)

    def test_each_reach(self):
        for text in SOME + SIXTY:
            both = [one + other for one, other in zip(ahead(text), behind(text))]
            for k in list(range(max(both, default=1) + 3)) + [HUGE]:
                wanted = [place for place in range(len(text)) if both[place] > k + 1]
                self.assertEqual(spare_places(text, k), wanted, (text, k))
            self.assertEqual(spare_places(text, 0), list(range(len(text))))
            self.assertEqual(spare_places(text, max(both, default=1)), [])

    def test_struck_out_alone_it_leaves_a_text_alike(self):
        for text in all_texts("ab", 6):
            for k in range(5):
                for place in spare_places(text, k):
                    self.assertEqual(piece_set(text[:place] + text[place + 1:], k), piece_set(text, k))

    def test_new_each_time(self):
        for text, k in [("ababab", 2), ("", 2), ("ab", 3)]:
            listed = spare_places(text, k)
            kept = list(listed)
            self.assertIs(type(listed), list)
            listed.append(9)
            self.assertEqual(spare_places(text, k), kept)

    def test_by_name(self):
        self.assertEqual(spare_places(text="aba", k=1), [0, 2])
        self.assertEqual(spare_places(k=1, text="aba"), [0, 2])


class SteppedTest(unittest.TestCase):
    def test_example(self):
        self.assertEqual(stepped("ba", 1, ("swap", 0)), "ab")

    def test_ordinary(self):
        for text, k, step, behind_it in [
            ("a", 0, ("out", 0), ""), ("aa", 1, ("out", 1), "a"), ("aba", 1, ("out", 0), "ba"),
            ("aba", 1, ("out", 2), "ab"),
            ("ab", 1, ("swap", 0), "ba"), ("cab", 1, ("swap", 1), "cba"), ("cab", 1, ("swap", 0), "acb"),
            ("", 0, ("in", 0, "a"), "a"), ("", 0, ("in", 0, "z"), "z"), ("ab", 1, ("in", 2, "a"), "aba"),
            ("ab", 1, ("in", 1, "a"), "aab"), ("ab", 0, ("in", 0, "c"), "cab"), ("ab", 0, ("in", 2, "c"), "abc"),
            ("abab", 2, ("in", 2, "b"), "abbab"), ("aab", 2, ("in", 0, "a"), "aaab"), ("abba", 3, ("swap", 0), None),
            ("aba", 2, ("swap", 0), None), ("abab", 2, ("swap", 0), "baab"), ("abab", 2, ("swap", 1), None),
            ("abab", 2, ("swap", 2), "abba"), ("abab", 3, ("swap", 0), None), ("abab", 1, ("swap", 0), None),
        ]:
            with self.subTest(text=text, k=k, step=step):
                self.assertEqual(plain_step(text, k, step), behind_it)
                if behind_it is None:
                    self.assertIs(caught(BadStep, stepped, text, k, step).value, step)
                else:
                    self.assertEqual(stepped(text, k, step), behind_it)

    def test_all_steps(self):
        for text in SOME[::3] + ["abcabc", "cabcba", "zab"]:
            for k in REACHES:
                for step in all_steps(text, "abcz"):
                    wanted = plain_step(text, k, step)
                    if wanted is None:
                        self.assertIs(caught(BadStep, stepped, text, k, step).value, step)
                    else:
                        self.assertEqual(stepped(text, k, step), wanted, (text, k, step))

    def test_steps_leave_texts_alike(self):
        for text in all_texts("ab", 4) + ["abc", "cabc", "ccabb", "abcabc"]:
            for k in range(4):
                for step in all_steps(text, "abc"):
                    changed = plain_step(text, k, step)
                    if changed is not None:
                        self.assertEqual(stepped(text, k, step), changed)
                        self.assertEqual(piece_set(changed, k), piece_set(text, k), (text, k, step))

    def test_in_and_out_take_each_other_back(self):
        for text in SOME[::5]:
            for k in range(4):
                for place in spare_places(text, k):
                    shorter = stepped(text, k, ("out", place))
                    self.assertEqual(stepped(shorter, k, ("in", place, text[place])), text)

    def test_sixty_letters(self):
        for text in SIXTY:
            for k in (0, 1, 2, 3, 7, 20, 59, 60, 61, HUGE):
                for place in (0, 1, 13, 29, 30, 58, 59, 60, 61):
                    for step in [("out", place), ("swap", place), ("in", place, "a"), ("in", place, "z")]:
                        wanted = plain_step(text, k, step)
                        if wanted is None:
                            self.assertIs(caught(BadStep, stepped, text, k, step).value, step)
                        else:
                            self.assertEqual(stepped(text, k, step), wanted)

    def test_values_that_are_no_steps(self):
        values = BAD_TEXTS + BAD_NUMBERS + [
            0, 1, HUGE, "", "out", "in", "swap", (), ("out",), ("in",), ("swap",), ("in", 0), ("out", 0, "a"),
            ("out", 0, 0),
            ("swap", 0, 1), ("swap", 0, "a"), ("in", 0, "a", "b"), ("in", 0, "a", 0), ["out", 0], ["swap", 0],
            ["in", 0, "a"], (["out"], 0), ("out", [0]), ("out", (0,)), ("Out", 0), ("OUT", 0), ("", 0), ("ou", 0),
            ("outs", 0), ("strike", 0), (None, 0), (0, "out"), (0, 0), (True, 0), ("out", True), ("out", False),
            ("swap", False), ("swap", True), ("in", False, "a"), ("in", True, "a"), ("out", None), ("out", "0"),
            ("out", "a"), ("out", -1), ("swap", -1), ("in", -1, "a"), ("out", -2), ("swap", -2), ("in", -3, "a"),
            ("out", 2), ("swap", 2), ("in", 3, "a"), ("out", 3), ("swap", 3), ("in", 4, "a"), ("out", HUGE),
            ("swap", HUGE), ("in", HUGE, "a"), ("out", -HUGE), ("in", 0, ""), ("in", 0, "ab"), ("in", 0, "aa"),
            ("in", 0, "A"), ("in", 0, " "), ("in", 0, "1"), ("in", 0, "\n"), ("in", 0, "a\n"), ("in", 0, "{"),
            ("in", 0, "`"), ("in", 0, None), ("in", 0, 0), ("in", 0, 97), ("in", 0, True), ("in", 0, ["a"]),
            ("in", 0, ("a",)), ("in", "a", 0),
            ("in", "0", "a"), ("in", [0], "a"), ("in", None, "a"), ("a", 0, "in"), ("put", 0, "a"), ("behind", "a"),
            {"out": 0}, {0: "out"}, [("out", 0)], (("out", 0),), ("out", ("out", 0)), ("swap", 1),
        ]
        for text, k in [("ab", 0), ("ab", 1), ("aa", 1)]:
            for value in values:
                with self.subTest(text=text, k=k, value=value):
                    self.assertIs(caught(BadStep, stepped, text, k, value).value, value)
                    self.assertIs(caught(BadStep, stepped, step=value, k=k, text=text).value, value)
                    self.assertIs(are_steps(text, text, k, [value]), False)
                    self.assertIs(are_steps(text, text, k, [value, value]), False)

    def test_by_name(self):
        self.assertEqual(stepped(text="aba", k=1, step=("out", 0)), "ba")
        self.assertEqual(stepped(step=("in", 0, "b"), k=1, text="ab"), "bab")

    def test_arguments_are_not_changed(self):
        for step in (["out", 0], ("out", [0]), ("in", 0, ["a"]), {"out": [0]}):
            copied = repr(step)
            self.assertRaises(BadStep, stepped, "ab", 0, step)
            self.assertIs(are_steps("ab", "b", 0, [step]), False)
            self.assertEqual(repr(step), copied)


class ShortestTest(unittest.TestCase):
    def test_example(self):
        self.assertEqual(shortest("bababa", 2), "abab")

    def test_ordinary(self):
        for text, k, least in [
            ("", 0, ""), ("", 3, ""), ("zyx", 0, ""), ("zyx", 1, "xyz"), ("zyx", 2, "zyx"), ("aaaa", 1, "a"),
            ("aaaa", 3, "aaa"), ("aaaa", 4, "aaaa"), ("aaaa", HUGE, "aaaa"), ("banana", 1, "abn"), ("abab", 2, "abab"),
            ("baba", 2, "abab"), ("abba", 2, "abab"), ("baab", 2, "abab"), ("ba", HUGE, "ba"),
        ]:
            with self.subTest(text=text, k=k):
                self.assertEqual(shortest(text, k), least)

    def test_plainly(self):
        # No text is alike to a listed one and shorter, or as long and less, but for those listed ahead of it.
        for letters, longest in [("ab", 8), ("abc", 5), ("abcd", 4), ("mpz", 5)]:
            texts = all_texts(letters, longest)
            for k in range(6):
                least = {}
                for text in texts:
                    self.assertEqual(shortest(text, k), least.setdefault(piece_set(text, k), text), (text, k))

    def test_no_place_is_spare(self):
        for text in SOME + SIXTY:
            for k in REACHES:
                least = shortest(text, k)
                self.assertEqual(spare_places(least, k), [])
                self.assertEqual(shortest(least, k), least)
                self.assertTrue(alike(text, least, k), (text, k))
                self.assertLessEqual((len(least), least), (len(text), text))
                for place in range(len(least) - 1):
                    lower = plain_step(least, k, ("swap", place))
                    self.assertTrue(lower is None or lower > least)

    def test_sixty_letters(self):
        self.assertEqual([shortest("a" * 60, k) for k in (0, 1, 59, 60, 61)], ["", "a", "a" * 59, "a" * 60, "a" * 60])
        self.assertEqual([shortest("ba" * 30, k) for k in (1, 2, 29)], ["ab", "abab", "ab" * 29])
        self.assertEqual([shortest("ba" * 30, k) for k in (30, 31, 60, HUGE)], ["ab" * 30] + ["ba" * 30] * 3)
        self.assertEqual(shortest("cba" * 20, 7), "abc" * 7)
        self.assertEqual(shortest((FALLING * 3)[:60], 1), ALPHABET)
        self.assertEqual(shortest(FALLING + ALPHABET + "hgfedcba", 2), ALPHABET + ALPHABET)
        self.assertEqual(shortest("b" * 30 + "a" * 30, 20), "b" * 20 + "a" * 20)
        for text in SIXTY:
            self.assertEqual(len(text), 60)
            self.assertEqual(shortest(text, HUGE), text)
            self.assertEqual(shortest(text, 61), text)
            self.assertEqual(shortest(text, 1), "".join(sorted(set(text))))
            self.assertEqual(shortest(text, 0), "")

    def test_same_one_for_texts_that_are_alike(self):
        for text in SIXTY:
            for k in (1, 2, 3, 5, 7):
                least = shortest(text, k)
                near = text
                for place in (3, 55, 20, 41, 0, 30, 12, 7, 50):
                    for step in [("in", place, text[place]), ("out", place), ("swap", place), ("in", place + 1, "a")]:
                        changed = plain_step(near, k, step)
                        near = near if changed is None else changed
                        self.assertEqual(shortest(near, k), least, (text, near, k))

    def test_any_out_steps_then_any_falling_swaps(self):
        for text in SOME[::2] + SIXTY[6:]:
            for k in (0, 1, 2, 3):
                left = text
                while spare_places(left, k):
                    spare = spare_places(left, k)
                    left = stepped(left, k, ("out", spare[len(left) * 7 % len(spare)]))
                falling = True
                while falling:
                    falling = [
                        place for place in range(len(left) - 1)
                        if left[place] > left[place + 1] and plain_step(left, k, ("swap", place)) is not None
                    ]
                    left = stepped(left, k, ("swap", falling[-1])) if falling else left
                self.assertEqual(left, shortest(text, k), (text, k))

    def test_by_name(self):
        self.assertEqual(shortest(text="bababa", k=2), "abab")
        self.assertEqual(shortest(k=2, text="bababa"), "abab")
        self.assertIs(type(shortest("ab", 0)), str)


class StepsTest(unittest.TestCase):
    """steps and are_steps for steps that lead."""

    def check(self, text, k):
        found = steps(text, k)
        self.assertIs(type(found), list)
        left = text
        for step in found:
            self.assertIs(type(step), tuple)
            self.assertIn(step[0], ("out", "swap"))
            left = plain_step(left, k, step)
            self.assertIsNotNone(left, (text, k, found))
        self.assertEqual(left, shortest(text, k))
        self.assertIs(are_steps(text, left, k, found), True)
        return found

    def test_example(self):
        self.assertIs(are_steps("aba", "ab", 1, [("out", 2)]), True)

    def test_ordinary(self):
        for text, k, many in [("", 0, 0), ("a", 0, 1), ("ba", 1, 1), ("ab", 1, 0), ("bababa", 2, 4), ("cba", 1, 3)]:
            with self.subTest(text=text, k=k):
                self.assertEqual(len(self.check(text, k)), many)
        self.assertEqual(steps("ba", 1), [("swap", 0)])
        self.assertEqual(steps("a", 0), [("out", 0)])
        self.assertEqual(steps("ba", 2), [])

    def test_many_texts(self):
        for text in SOME:
            for k in REACHES:
                self.check(text, k)

    def test_sixty_letters(self):
        for text in SIXTY:
            for k in REACHES + [20, 29, 30, 58, 59, 60, 61, 10 ** 59]:
                self.check(text, k)

    def test_no_step_leads_to_the_text_itself(self):
        for text in SOME + SIXTY:
            for k in (0, 1, 3, HUGE):
                self.assertIs(are_steps(text, text, k, []), True)
                self.assertIs(are_steps(text, text + "a", k, []), False)
                self.assertIs(are_steps(text + "a", text, k, []), False)

    def test_steps_of_all_kinds(self):
        for one, other, k, value, right in [
            ("", "ab", 0, [("in", 0, "b"), ("in", 0, "a")], True),
            ("", "ab", 0, [("in", 0, "a"), ("in", 0, "b")], False),
            ("ab", "ba", 1, [("swap", 0)], True), ("ab", "ab", 1, [("swap", 0), ("swap", 0)], True),
            ("ab", "ab", 1, [("swap", 0)], False), ("ab", "bab", 1, [("in", 2, "b"), ("in", 0, "b"), ("out", 3)], True),
            ("baba", "abab", 2, [("swap", 0), ("swap", 2)], True),
            ("baba", "abab", 2, [("swap", 2), ("swap", 0)], True),
            ("baba", "abab", 2, [("swap", 0), ("swap", 1)], False), ("aa", "", 0, [("out", 1), ("out", 0)], True),
            ("aa", "", 0, [("out", 0), ("out", 1)], False),
            ("ab", "xy", 0, [("in", 1, "x"), ("out", 0), ("in", 2, "y"), ("out", 1)], True),
            ("ab", "xy", 0, [("in", 1, "x"), ("out", 0), ("in", 1, "y"), ("out", 1)], False),
            ("ab", "ab", 1, [("in", 2, "a"), ("out", 2)], True), ("ab", "ba", 1, [("in", 2, "a"), ("out", 0)], True),
        ]:
            with self.subTest(one=one, other=other, k=k, value=value):
                self.assertIs(plain_lead(one, other, k, value), right)
                self.assertIs(are_steps(one, other, k, value), right)

    def test_back_from_the_shortest_text(self):
        for text in SOME[::4] + SIXTY[::4]:
            for k in (1, 2, 3):
                left = text
                back = []
                for step in steps(text, k):
                    turned = step if step[0] == "swap" else ("in", step[1], left[step[1]])
                    back.insert(0, turned)
                    left = stepped(left, k, step)
                self.assertIs(are_steps(left, text, k, back), True)

    def test_by_name(self):
        self.assertEqual(steps(text="ba", k=1), [("swap", 0)])
        self.assertEqual(steps(k=1, text="ba"), [("swap", 0)])
        self.assertIs(are_steps(one="ba", other="ab", k=1, value=[("swap", 0)]), True)
        self.assertIs(are_steps(value=[("swap", 0)], k=2, other="ab", one="ba"), False)

    def test_new_each_time(self):
        for text, k in [("bababa", 2), ("", 1), ("ba", 9)]:
            found = steps(text, k)
            kept = list(found)
            found.append(("out", 0))
            self.assertEqual(steps(text, k), kept)


class OtherStepsTest(unittest.TestCase):
    """are_steps for what leads elsewhere, and for values of any kind."""

    def test_changed_rows(self):
        for text, k in [("bababa", 2), ("cbacbacb", 2), ("bbaabbaa", 2), ("zyxzyx", 1), ("edcba", 1), ("abcabc", 0)]:
            found = steps(text, k)
            least = shortest(text, k)
            changed = [found[:place] + found[place + 1:] for place in range(len(found))]
            changed += [found[::-1], found + found, found[1:] + found[:1], [tuple(found)], [found], found + [found]]
            more = all_steps(text, text[0] + "q")
            more += ["out", None, True, 0, [], (), ["out", 0], ("out", True), {"out": 0}]
            for place in range(len(found) + 1):
                changed += [found[:place] + [step] + found[place:] for step in more]
                changed += [found[:place] + [step] + found[place + 1:] for step in more]
            for place in range(len(found)):
                word, at = found[place]
                for step in [
                    (at, word), [word, at], (word, at, 0), (word, bool(at)), (word, str(at)), (word,),
                    (word, at, text[0]), (word, -1), (word, at - len(text)), (word, HUGE), ("in", at, "a"),
                ]:
                    changed.append(found[:place] + [step] + found[place + 1:])
                if place:
                    changed.append(found[:place - 1] + [found[place], found[place - 1]] + found[place + 1:])
            answers = []
            for value in changed:
                wanted = plain_lead(text, least, k, value)
                answers.append(wanted)
                with self.subTest(text=text, k=k, value=value):
                    self.assertIs(are_steps(text, least, k, value), wanted)
            self.assertIn(False, answers)

    def test_other_texts_and_reaches(self):
        texts = ["", "a", "ba", "aba", "abab", "baba", "bababa", "cab"]
        rows = [steps(text, k) for text in texts for k in (0, 1, 2, 3)]
        for one in texts:
            for other in texts + ["ab", "abc"]:
                for k in (0, 1, 2, 3, HUGE):
                    for value in rows:
                        wanted = plain_lead(one, other, k, value)
                        self.assertIs(are_steps(one, other, k, value), wanted, (one, other, k, value))

    def test_values_of_any_kind(self):
        for value in BAD_TEXTS + BAD_NUMBERS + [
            "", "ab", 0, 1, HUGE, (), (("swap", 0),), ("swap", 0), {("swap", 0): 0}, {0: ("swap", 0)}, {}, [[]], [()],
            [0], [None], ["swap"], ["swap", 0], [["swap", 0]], [("swap", 0), None], [None, ("swap", 0)], [True], [{}],
            [""], [("swap", 0), ()], [[("swap", 0)]], [(("swap", 0),)], [("swap", [0])], [("swap", False)],
            [("out", 0)],
        ]:
            if value == [] and type(value) is list:
                continue
            with self.subTest(value=value):
                self.assertIs(are_steps("ba", "ab", 1, value), False)
                self.assertIs(are_steps("ba", "ba", 1, value), False)
        self.assertIs(are_steps("ba", "ab", 1, [("swap", 0)]), True)
        self.assertIs(are_steps("ba", "ab", 1, []), False)

    def test_long_rows(self):
        row = [("in", 0, "a"), ("out", 0)] * 500
        self.assertIs(are_steps("ab", "ab", 1, row), True)
        self.assertIs(are_steps("ab", "ab", 2, row), False)
        self.assertIs(are_steps("ab", "ab", 1, row + [("out", 0)]), False)
        self.assertIs(are_steps("a", "a" * 301, 0, [("in", 0, "a")] * 300), True)
        self.assertIs(are_steps("a", "a" * 300, 0, [("in", 0, "a")] * 300), False)

    def test_arguments_are_not_changed(self):
        for value in [steps("bababa", 2), [["swap", 0]], [("swap", [0])], {"a": [0]}]:
            copied = repr(value)
            are_steps("bababa", "abab", 2, value)
            self.assertRaises(BadText, are_steps, value, "a", 1, value)
            self.assertRaises(BadReach, are_steps, "a", "a", value, value)
            self.assertEqual(repr(value), copied)


class ShortestErrorTest(unittest.TestCase):
    def test_bad_text(self):
        for value in BAD_TEXTS:
            with self.subTest(value=value):
                for function in (spare_places, shortest, steps):
                    for k in (0, 1, HUGE):
                        self.assertIs(caught(BadText, function, value, k).value, value)
                        self.assertIs(caught(BadText, function, k=k, text=value).value, value)
                self.assertIs(caught(BadText, stepped, value, 0, ("out", 0)).value, value)
                self.assertIs(caught(BadText, stepped, step=("out", 0), k=0, text=value).value, value)
                self.assertIs(caught(BadText, are_steps, value, "a", 1, []).value, value)
                self.assertIs(caught(BadText, are_steps, "a", value, 1, []).value, value)
                self.assertIs(caught(BadText, are_steps, value=[], k=0, other="", one=value).value, value)

    def test_bad_reach(self):
        for value in BAD_NUMBERS:
            for text in ("", "a", "abab"):
                with self.subTest(text=text, value=value):
                    for function in (spare_places, shortest, steps):
                        self.assertIs(caught(BadReach, function, text, value).value, value)
                        self.assertIs(caught(BadReach, function, k=value, text=text).value, value)
                    for step in (("out", 0), None, ("in", 0, "a")):
                        self.assertIs(caught(BadReach, stepped, text, value, step).value, value)
                        self.assertIs(caught(BadReach, stepped, step=step, k=value, text=text).value, value)
                    for row in ([], None, [None], "a"):
                        self.assertIs(caught(BadReach, are_steps, text, text, value, row).value, value)
                        self.assertIs(caught(BadReach, are_steps, value=row, k=value, other="", one=text).value, value)

    def test_order(self):
        for value in BAD_TEXTS:
            with self.subTest(value=value):
                for function in (spare_places, shortest, steps):
                    self.assertIs(caught(BadText, function, value, -1).value, value)
                    self.assertIs(caught(BadText, function, k=True, text=value).value, value)
                self.assertIs(caught(BadText, stepped, value, -1, None).value, value)
                self.assertIs(caught(BadText, stepped, step=5, k=None, text=value).value, value)
                self.assertIs(caught(BadText, are_steps, value, 5, -1, None).value, value)
                self.assertIs(caught(BadText, are_steps, "", value, -1, None).value, value)
                self.assertIs(caught(BadText, are_steps, value=4, k=True, other=[], one=value).value, value)

    def test_arguments_are_not_changed(self):
        for function in (spare_places, shortest, steps):
            for values in [([["a"]], 1), ("a", [["a"]])]:
                copied = repr(values)
                self.assertRaises(ValueError, function, *values)
                self.assertEqual(repr(values), copied)


if __name__ == "__main__":
    unittest.main()
