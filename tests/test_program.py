"""What the document promises over the whole program: what one part tells, the others show."""

import unittest

from scatteredpieces.compiling import fewest, few_paper, is_few_paper, is_shared, machine_of, opposite, parted, shared
from scatteredpieces.counts import counts
from scatteredpieces.errors import PieceError
from scatteredpieces.full import fullness, missing
from scatteredpieces.kinds import Kind, ground
from scatteredpieces.likeness import alike, is_table, likeness, parting, table
from scatteredpieces.machines import Machine, is_pairs, kinds_of, least_reach, pairs, split_by, told_by
from scatteredpieces.rolls import Roll, replayed
from scatteredpieces.sayings import apart, keeps, least_text, reach
from scatteredpieces.shortest import are_steps, shortest, steps
from scatteredpieces.signs import format_machine, format_saying, read_machine, read_saying
from scatteredpieces.texts import holds, pieces
from tests.plain import HUGE, all_texts, depth, drawn, nested, plain_pieces, small_parts, some_sayings

SAYINGS = some_sayings()
MACHINES = [Machine(letters, rows, lets) for letters, rows, lets in small_parts()]
TEXTS = all_texts("ab", 5) + ["cabcab", "abcabc", "cba", "zyxzyx", "banana", "abcabbca", "ab" * 30, "cba" * 20]


class KindsShownTest(unittest.TestCase):
    def test_steps_lead_to_the_text_of_the_kind_and_tables_show_it(self):
        for text in TEXTS:
            for k in (0, 1, 2, 3, 7, HUGE):
                least = Kind(text, k).least
                self.assertIs(are_steps(text, least, k, steps(text, k)), True)
                self.assertIs(is_table(text, least, k, table(text, least, k)), True)
                self.assertIs(alike(text, least, k), True)
                told = likeness(text, least)
                self.assertTrue(told is None or told >= k)

    def test_texts_of_unlike_kinds_are_parted(self):
        texts = all_texts("ab", 4) + ["c", "cab"]
        for one in texts:
            for other in texts:
                parted_by = parting(one, other)
                for k in (0, 1, 2, 3, 4):
                    same = Kind(one, k) == Kind(other, k)
                    self.assertIs(same, parted_by is None or len(parted_by) > k)
                    self.assertIs(same, table(one, other, k) is not None)
                    within = Kind(one, k).within(Kind(other, k)) and Kind(other, k).within(Kind(one, k))
                    self.assertIs(same, within)
                if parted_by is not None:
                    saying = ("has", parted_by)
                    self.assertNotEqual(keeps(one, saying), keeps(other, saying))

    def test_kinds_are_told_by_what_stands_in_texts(self):
        for text in TEXTS[:40]:
            self.assertEqual(pieces(text, 2), plain_pieces(text, 2))
            for letters in ("ab", "abc"):
                full = fullness(text, letters)
                for n in range(full + 1):
                    self.assertTrue(all(holds(text, word) for word in all_texts(letters, n)))
                least = missing(text, letters)
                self.assertIs(keeps(text, ("has", least)), False)
                if set(text) <= set(letters):
                    kind = Kind(text, full)
                    self.assertTrue(kind == Kind(letters * full, full))
                    self.assertEqual(kind.idle_behind(letters) + kind.idle_ahead(letters), letters * 2)
            self.assertEqual(counts(text)[min(2, len(text))], len(plain_pieces(text, min(2, len(text)))))

    def test_a_closed_list_settles_what_is_asked_of_all_texts(self):
        for letters, k in [("ab", 2), ("ab", 3), ("abc", 1), ("abc", 2), ("a", 5)]:
            known = ground(letters, k)
            whole = Machine(letters, [(0,) * len(letters)], [0])
            self.assertEqual(kinds_of(whole, k), known)
            for saying in SAYINGS[::3]:
                if reach(saying) <= k:
                    kept = [text for text in known if keeps(text, saying)]
                    self.assertEqual(least_text(saying, letters), (kept + [None])[0])
                    self.assertEqual(kinds_of(machine_of(saying, letters), k), kept)

    def test_repeated_texts_stay_of_one_kind(self):
        for text in ("a", "ba", "cab", "abba"):
            for k in (0, 1, 2, 3):
                kind = Kind(text, k)
                settled = kind * k
                self.assertTrue(settled == kind * HUGE == kind * (k + 1))
                self.assertTrue(settled + kind == settled == kind + settled)
                self.assertEqual(settled.idle_behind("".join(sorted(set(text)))), "".join(sorted(set(text))))

    def test_rolls_stand_for_their_texts(self):
        roll = Roll()
        for number in drawn(3, 24):
            letter = "abc"[number % 3]
            before = [roll.kind(k) for k in (0, 1, 2, 3)]
            many = [len(roll.says_more(k)) for k in (0, 1, 2, 3)]
            if number % 2:
                idle = [letter in kind.idle_behind("abc") for kind in before]
                roll.put_behind(letter)
            else:
                idle = [letter in kind.idle_ahead("abc") for kind in before]
                roll.put_ahead(letter)
            for k in (0, 1, 2, 3):
                self.assertIs(roll.kind(k) == before[k], idle[k])
                self.assertEqual(len(roll.says_more(k)), many[k] if idle[k] else many[k] + 1)
            self.assertEqual(replayed(roll.history).text, roll.text)


class SayingsAndMachinesTest(unittest.TestCase):
    def test_least_texts_keep_their_sayings_and_are_their_own_shortest_ones(self):
        for saying in SAYINGS:
            for letters in ("ab", "abc", "b"):
                least = least_text(saying, letters)
                if least is not None:
                    self.assertIs(keeps(least, saying), True)
                    self.assertEqual(shortest(least, reach(saying)), least)
                self.assertEqual(machine_of(saying, letters).least_text(), least)
                self.assertEqual(fewest(machine_of(saying, letters)).least_text(), least)

    def test_what_parts_two_sayings_parts_their_machines(self):
        for one, other in zip(SAYINGS, SAYINGS[11:] + SAYINGS[:11]):
            for letters in ("ab", "abc"):
                text = apart(one, other, letters)
                mine = machine_of(one, letters)
                others = machine_of(other, letters)
                self.assertEqual(parted(mine, others), text)
                self.assertIs(fewest(mine) == fewest(others), text is None)
                if text is None:
                    self.assertIs(is_shared(mine, others, shared(mine, others)), True)
                else:
                    self.assertIsNone(shared(mine, others))
                    self.assertNotEqual(keeps(text, one), keeps(text, other))

    def test_machines_of_sayings_are_told_by_their_reach(self):
        for saying in SAYINGS:
            for letters in ("ab", "abc"):
                machine = machine_of(saying, letters)
                # Of more places, and of more kinds, nothing is promised.
                if len(machine.rows) > 20 or len(letters) + reach(saying) > 5:
                    continue
                least = least_reach(machine, reach(saying))
                self.assertIsNotNone(least)
                self.assertIs(told_by(machine, reach(saying)), True)
                self.assertIs(told_by(opposite(machine), least), True)
                self.assertEqual(least_reach(fewest(machine), HUGE), least)
                self.assertIs(is_pairs(machine, least, pairs(machine, least)), True)

    def test_written_and_read_they_do_the_same(self):
        for saying in SAYINGS + [nested(word, 10) for word in ("not", "and", "or", "left", "right")]:
            again = read_saying(format_saying(saying))
            self.assertEqual(again, saying)
            self.assertIsNone(apart(again, saying, "ab"))
            machine = machine_of(saying, "ab")
            self.assertTrue(read_machine(format_machine(machine)) == machine)
            self.assertIsNone(parted(read_machine(format_machine(machine)), machine_of(again, "ab")))
        for machine in MACHINES:
            again = read_machine(format_machine(machine))
            self.assertIsNone(parted(again, machine))
            self.assertTrue(fewest(again) == fewest(machine))

    def test_a_machine_that_is_told_goes_by_kinds(self):
        for machine in MACHINES + [machine_of(saying, "ab") for saying in SAYINGS[:40]]:
            most = 3 if len(machine.letters) < 3 else 1
            least = least_reach(machine, most) if len(machine.rows) <= 20 else None
            for k in (least, least + 1) if least is not None else ():
                kept = kinds_of(machine, k)
                self.assertEqual(machine.least_text(), (kept + [None])[0])
                for text in all_texts(machine.letters, 4):
                    self.assertIs(machine.lets_by(text), Kind(text, k).least in kept)

    def test_a_machine_that_is_split_does_not_go_by_kinds(self):
        for machine in MACHINES:
            for k in (0, 1, 2):
                split = split_by(machine, k)
                if split is not None:
                    self.assertTrue(Kind(split[0], k) == Kind(split[1], k))
                    self.assertIn(Kind(split[0], k).least, kinds_of(machine, k))
                    self.assertIn(Kind(split[0], k).least, kinds_of(opposite(machine), k))

    def test_words_of_sayings_are_done_by_machines(self):
        for saying in SAYINGS[::3]:
            if depth(saying) < 9:
                doubled = ("not", ("not", saying))
                self.assertIsNone(parted(machine_of(doubled, "ab"), machine_of(saying, "ab")))
                self.assertIsNone(parted(opposite(machine_of(saying, "ab")), machine_of(doubled[1], "ab")))
                some = fewest(machine_of(saying, "ab"))
                self.assertIs(is_few_paper(some, few_paper(some)), True)
                self.assertEqual(len(few_paper(some)[0]), len(some.rows))


class ErrorsTest(unittest.TestCase):
    def test_all_errors_are_piece_errors(self):
        for call in [
            lambda: pieces("A", 0), lambda: missing("a", ""), lambda: shortest("a", -1), lambda: pieces("a", -1),
            lambda: Kind("a", 1) * -1, lambda: Kind("a", 1) + Kind("a", 2), lambda: reach("a"), lambda: Roll().undo(),
            lambda: Roll().strike(0), lambda: Roll().put_behind("ab"), lambda: read_saying(""),
            lambda: read_machine(""), lambda: Machine("a", [], []), lambda: Machine("a", [(0,)], [1]),
            lambda: parted(Machine("a", [(0,)], []), Machine("b", [(0,)], [])),
        ]:
            with self.assertRaises(PieceError) as caught:
                call()
            self.assertEqual(type(caught.exception).__bases__, (PieceError,))
            self.assertIsInstance(caught.exception, ValueError)


if __name__ == "__main__":
    unittest.main()
