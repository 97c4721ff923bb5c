import unittest

from scatteredpieces.errors import BadLetter, BadReach, NoPlace, Nothing
from scatteredpieces.kinds import Kind
from scatteredpieces.rolls import Roll, replayed
from tests.plain import ALPHABET, BAD_NUMBERS, BAD_TEXTS, HUGE, caught, drawn, piece_set

BAD_LETTER = BAD_TEXTS + ["", "ab", "aa", "az", ALPHABET, "a" * 200]


def plain_text(events):
    text = ""
    for word, what in events:
        if word == "behind":
            text = text + what
        elif word == "ahead":
            text = what + text
        else:
            text = text[:what] + text[what + 1:]
    return text


def drawn_events(seed, many, longest):
    """List events that can be done one after the other, drawn by plain arithmetic."""
    events = []
    for number in drawn(seed, many):
        size = len(plain_text(events))
        if size and (size >= longest or number % 3 == 0):
            events.append(("strike", number // 3 % size))
        else:
            events.append((("behind", "ahead")[number // 3 % 2], "abc"[number // 6 % 3]))
    return events


def do(roll, event):
    word, what = event
    return {"behind": roll.put_behind, "ahead": roll.put_ahead, "strike": roll.strike}[word](what)


class RollTest(unittest.TestCase):
    def check(self, roll, events):
        self.assertEqual([roll.text, roll.history], [plain_text(events), events])
        self.assertEqual([type(roll.text), type(roll.history)], [str, list])

    def test_example(self):
        roll = Roll()
        self.assertEqual(
            [roll.put_behind("a"), roll.put_ahead("b"), roll.put_behind("a"), roll.text, roll.says_more(1),
             roll.kind(2).least, roll.strike(0), roll.undo(), roll.text],
            [None, None, None, "baa", [("behind", "a"), ("ahead", "b")], "baa", None, ("strike", 0), "baa"],
        )

    def test_new_roll(self):
        roll = Roll()
        self.check(roll, [])
        self.assertEqual([roll.kind(3).least, roll.kind(0).k, roll.says_more(2)], ["", 0, []])
        self.assertIs(caught(Nothing, roll.undo).__class__, Nothing)

    def test_events(self):
        for seed in range(12):
            roll = Roll()
            done = []
            for event in drawn_events(seed, 60, 30):
                self.assertIsNone(do(roll, event))
                done.append(event)
                self.check(roll, done)

    def test_each_letter_and_each_place(self):
        roll = Roll()
        for letter in ALPHABET:
            roll.put_behind(letter=letter)
        self.assertEqual(roll.text, ALPHABET)
        for place in (25, 0, 12, 22):
            before = roll.text
            roll.strike(place=place)
            self.assertEqual(roll.text, before[:place] + before[place + 1:])
        for letter in "zya":
            roll.put_ahead(letter=letter)
        self.assertEqual(roll.text[:3], "ayz")

    def test_undo(self):
        for seed in range(12):
            events = drawn_events(seed, 40, 30)
            roll = replayed(events)
            while events:
                self.assertEqual(roll.undo(), events.pop())
                self.check(roll, events)
            self.assertEqual(vars(caught(Nothing, roll.undo)), {})
            self.check(roll, [])

    def test_undo_and_go_on(self):
        roll = replayed([("behind", "a"), ("behind", "b"), ("ahead", "c")])
        self.assertEqual([roll.undo(), roll.undo()], [("ahead", "c"), ("behind", "b")])
        roll.put_behind("z")
        self.check(roll, [("behind", "a"), ("behind", "z")])
        roll.strike(0)
        roll.put_ahead("x")
        self.assertEqual([roll.undo(), roll.undo(), roll.text], [("ahead", "x"), ("strike", 0), "az"])

    def test_history_is_new_each_time(self):
        roll = replayed([("behind", "a"), ("strike", 0)])
        history = roll.history
        history.clear()
        roll.history.append(("behind", "z"))
        self.check(roll, [("behind", "a"), ("strike", 0)])

    def test_bad_letter(self):
        for start in ([], [("behind", "a"), ("ahead", "b")]):
            for value in BAD_LETTER:
                roll = replayed(start)
                with self.subTest(start=start, value=value):
                    for method in (roll.put_behind, roll.put_ahead):
                        self.assertIs(caught(BadLetter, method, value).value, value)
                        self.assertIs(caught(BadLetter, method, letter=value).value, value)
                    self.check(roll, start)

    def test_no_place(self):
        for start in ([], [("behind", "a"), ("ahead", "b")], [("behind", "a"), ("behind", "a"), ("strike", 1)]):
            size = len(plain_text(start))
            for value in BAD_NUMBERS + [size, size + 1, HUGE, -size - 1]:
                roll = replayed(start)
                with self.subTest(start=start, value=value):
                    self.assertIs(caught(NoPlace, roll.strike, value).value, value)
                    self.assertIs(caught(NoPlace, roll.strike, place=value).value, value)
                    self.check(roll, start)
        self.assertIs(caught(NoPlace, Roll().strike, 0).value, 0)

    def test_arguments_are_not_changed(self):
        for value in ([["a"]], {"a": ["b"]}):
            copied = repr(value)
            self.assertRaises(BadLetter, Roll().put_behind, value)
            self.assertRaises(NoPlace, Roll().strike, value)
            self.assertRaises(BadReach, Roll().says_more, value)
            self.assertEqual(repr(value), copied)


class ForkTest(unittest.TestCase):
    def test_each_goes_on_by_itself(self):
        events = [("behind", "a"), ("ahead", "b"), ("strike", 1)]
        roll = replayed(events)
        other = roll.fork()
        self.assertIs(type(other), Roll)
        self.assertIsNot(other, roll)
        self.assertEqual([other.text, other.history], ["b", events])
        other.put_behind("x")
        self.assertEqual([roll.text, roll.history, other.text], ["b", events, "bx"])
        roll.put_ahead("y")
        roll.put_ahead("z")
        self.assertEqual([other.text, other.history], ["bx", events + [("behind", "x")]])
        self.assertEqual([roll.text, roll.history], ["zyb", events + [("ahead", "y"), ("ahead", "z")]])

    def test_takes_back_what_was_ahead_of_the_fork(self):
        events = drawn_events(5, 25, 30)
        roll = replayed(events)
        other = roll.fork()
        for event in reversed(events):
            self.assertEqual(other.undo(), event)
        self.assertEqual([other.text, other.history], ["", []])
        self.assertRaises(Nothing, other.undo)
        self.assertEqual([roll.text, roll.history], [plain_text(events), events])
        self.assertEqual(roll.undo(), events[-1])

    def test_forks_of_forks(self):
        first = replayed([("behind", "a")])
        second = first.fork()
        second.put_behind("b")
        third = second.fork()
        third.put_behind("c")
        second.undo()
        first.strike(0)
        self.assertEqual([first.text, second.text, third.text], ["", "a", "abc"])
        self.assertEqual([len(first.history), len(second.history), len(third.history)], [2, 1, 3])
        self.assertEqual([Roll().fork().text, Roll().fork().history], ["", []])


class TellingTest(unittest.TestCase):
    """kind, says_more and replayed."""

    def test_kind(self):
        for seed in range(6):
            roll = replayed(drawn_events(seed, 30, 30))
            for k in (0, 1, 2, 3, 30, HUGE):
                self.assertIs(type(roll.kind(k)), Kind)
                self.assertTrue(roll.kind(k) == Kind(roll.text, k))
                self.assertTrue(roll.kind(k=k) == Kind(roll.text, k))
                self.assertEqual(roll.kind(k).k, k)

    def test_says_more_plainly(self):
        for seed in range(12):
            events = drawn_events(seed, 25, 8)
            roll = replayed(events)
            for k in (0, 1, 2, 3, 8, HUGE):
                texts = [plain_text(events[:many]) for many in range(len(events) + 1)]
                held = [piece_set(text, min(k, 9)) for text in texts]
                wanted = [event for at, event in enumerate(events) if held[at] != held[at + 1]]
                self.assertEqual(roll.says_more(k), wanted)
                self.assertEqual(roll.says_more(k=k), wanted)
            self.assertEqual(roll.history, events)

    def test_says_more_thirty_letters(self):
        roll = replayed([("behind", "ab"[at % 2]) for at in range(30)])
        self.assertEqual(len(roll.text), 30)
        self.assertEqual([len(roll.says_more(k)) for k in (0, 1, 30, HUGE)], [0, 2, 30, 30])
        roll = replayed([("ahead", "a")] * 30)
        self.assertEqual([roll.says_more(k) for k in (1, 2, 29)], [[("ahead", "a")] * many for many in (1, 2, 29)])
        for _ in range(30):
            roll.strike(len(roll.text) - 1)
        self.assertEqual(roll.says_more(2), [("ahead", "a")] * 2 + [("strike", 1), ("strike", 0)])

    def test_says_more_is_new_each_time_and_forgets_what_is_taken_back(self):
        roll = replayed([("behind", "a"), ("behind", "b"), ("behind", "a")])
        found = roll.says_more(1)
        found.clear()
        self.assertEqual(roll.says_more(1), [("behind", "a"), ("behind", "b")])
        roll.undo()
        roll.undo()
        self.assertEqual([roll.says_more(1), roll.says_more(5)], [[("behind", "a")]] * 2)

    def test_bad_reach(self):
        for value in BAD_NUMBERS:
            for roll in (Roll(), replayed([("behind", "a"), ("strike", 0), ("ahead", "b")])):
                with self.subTest(value=value):
                    history = roll.history
                    self.assertIs(caught(BadReach, roll.kind, value).value, value)
                    self.assertIs(caught(BadReach, roll.kind, k=value).value, value)
                    self.assertIs(caught(BadReach, roll.says_more, value).value, value)
                    self.assertIs(caught(BadReach, roll.says_more, k=value).value, value)
                    self.assertEqual(roll.history, history)

    def test_replayed(self):
        for seed in range(12):
            events = drawn_events(seed, 50, 30)
            given = list(events)
            roll = replayed(given)
            self.assertIs(type(roll), Roll)
            self.assertEqual([roll.text, roll.history], [plain_text(events), events])
            roll.put_behind("z")
            given.clear()
            self.assertEqual(roll.history, events + [("behind", "z")])
            self.assertEqual(replayed(events=roll.history).text, roll.text)
        self.assertEqual([replayed([]).text, replayed([]).history], ["", []])

    def test_replayed_leaves_its_argument(self):
        events = [("behind", "a"), ("ahead", "b")]
        roll = replayed(events)
        roll.undo()
        roll.strike(0)
        self.assertEqual(events, [("behind", "a"), ("ahead", "b")])


if __name__ == "__main__":
    unittest.main()
