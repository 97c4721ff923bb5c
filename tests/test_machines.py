import unittest
from itertools import product

from scatteredpieces.compiling import machine_of
from scatteredpieces.errors import BadLetters, BadLets, BadReach, BadRows, BadText, OtherLetters
from scatteredpieces.kinds import Kind
from scatteredpieces.machines import Machine, is_pairs, kinds_of, least_reach, pairs, split_by, told_by
from scatteredpieces.shortest import shortest
from tests.plain import (
    ALPHABET, BAD_LETTERS, BAD_NUMBERS, BAD_TEXTS, HUGE, OTHER_KINDS, all_texts, caught, drawn_parts, piece_set,
    plain_place, small_parts,
)

PARTS = small_parts()
EXAMPLE = Machine("ab", [(1, 0), (1, 1)], [1])
PARITY = Machine("ab", [(1, 1), (0, 0)], [0])
BAD_ROWS = BAD_TEXTS + BAD_NUMBERS + [
    "", 0, 1, HUGE, (), ((0, 0),), [], [()], [(0,)], [(0, 0, 0)], [[0, 0]], [(0, 0), [0, 0]], [(0, 1)], [(1, 0)],
    [(0, -1)], [(-1, 0)], [(0, True)], [(False, 0)], [(0, "0")], [(0, None)], [(0, HUGE)], [(0, [0])], [(0, (0,))],
    [(0, 0), (0,)], [(0, 0), (0, 2)], [(0, 0), (2, 0)], [(1, 1), (0, 0, 0)], [(0, 0), None], [None, (0, 0)], ["ab"],
    [(0, 0), "ab"], [0, 0], {0: (0, 0)}, {(0, 0): 0}, [{0: 0, 1: 0}], [(0, {})], [(("a", 0), ("b", 0))], [((0, 0),)],
    "00", [(0, 0), (1, -1)], [(0, 0), (1, True)], [(0, 0), ()],
]
BAD_LETS = BAD_TEXTS + BAD_NUMBERS + [
    "", 0, 1, HUGE, (0,), (0, 1), [2], [3], [HUGE], [-1], [-2], [0, 0], [1, 1], [0, 1, 0], [0, 1, 1], [0, 1, 2],
    [True], [False], [0, True], [False, 1], [None], ["0"], [0, "1"], [[0]], [0, [1]], [(0,)], {0: 0}, {0: True}, [{}],
    [0, None], [0, -1],
]


def machines():
    return [Machine(letters, rows, lets) for letters, rows, lets in PARTS]


def plain_lets_by(machine, text):
    return plain_place(machine.letters, machine.rows, text) in machine.lets


def plain_closure(machine, k):
    """Give the set of the pairs that a list of pairs must have, by the words of the document."""
    found = {(0, "")}
    fresh = found
    while fresh:
        fresh = {
            (target, shortest(text + letter, k)) for place, text in fresh
            for letter, target in zip(machine.letters, machine.rows[place])
        } - found
        found = found | fresh
    return found


def plain_is_pairs(machine, k, value):
    """Tell by the words of the document whether any value is pairs."""
    if type(value) is not list:
        return False
    for pair in value:
        if type(pair) is not tuple or len(pair) != 2 or type(pair[0]) is not int or type(pair[1]) is not str:
            return False
        if not 0 <= pair[0] < len(machine.rows) or not set(pair[1]) <= set(machine.letters):
            return False
        if shortest(pair[1], k) != pair[1]:
            return False
    known = set(value)
    if len(known) != len(value) or (0, "") not in known:
        return False
    for place, text in value:
        for letter, target in zip(machine.letters, machine.rows[place]):
            if (target, shortest(text + letter, k)) not in known:
                return False
    let = {text for place, text in value if place in machine.lets}
    return not let & {text for place, text in value if place not in machine.lets}


class MachineTest(unittest.TestCase):
    def test_parts(self):
        for letters, rows, lets in PARTS:
            machine = Machine(letters, rows, lets)
            self.assertEqual([machine.letters, machine.rows, machine.lets], [letters, rows, sorted(lets)])
            self.assertEqual([type(machine.letters), type(machine.rows), type(machine.lets)], [str, list, list])
            self.assertEqual({type(row) for row in machine.rows}, {tuple})
            named = Machine(lets=lets, rows=rows, letters=letters)
            self.assertTrue(named == machine)

    def test_lets_ascend(self):
        rows = [(1, 2), (2, 0), (0, 1)]
        for lets in ([2, 0, 1], [1, 0, 2], [2, 1, 0], [0, 1, 2]):
            given = list(lets)
            machine = Machine("ab", rows, given)
            self.assertEqual(machine.lets, [0, 1, 2])
            self.assertEqual(given, lets)
            self.assertTrue(machine == Machine("ab", rows, [0, 1, 2]))

    def test_parts_may_be_changed(self):
        rows = [(1, 0), (1, 1)]
        lets = [1, 0]
        machine = Machine("ab", rows, lets)
        rows[0] = (0, 0)
        rows.append((5, 5))
        lets.clear()
        self.assertEqual([machine.rows, machine.lets], [[(1, 0), (1, 1)], [0, 1]])
        machine.rows.append((0, 0))
        machine.rows[0] = (0, 0)
        machine.lets.append(7)
        given = machine.rows
        given[1] = (0, 0)
        self.assertEqual([machine.letters, machine.rows, machine.lets], ["ab", [(1, 0), (1, 1)], [0, 1]])
        self.assertIs(machine.lets_by("b"), True)

    def test_equal(self):
        for letters, rows, lets in PARTS:
            for other_letters, other_rows, other_lets in PARTS:
                same = (letters, rows, lets) == (other_letters, other_rows, other_lets)
                one = Machine(letters, rows, lets)
                other = Machine(other_letters, other_rows, other_lets[::-1])
                self.assertIs(one == other, same)
                self.assertIs(one != other, not same)

    def test_one_part_other(self):
        machine = Machine("ab", [(1, 0), (1, 1)], [1])
        for other in [
            Machine("ac", [(1, 0), (1, 1)], [1]), Machine("ab", [(1, 0), (1, 0)], [1]),
            Machine("ab", [(1, 0), (1, 1)], [0]), Machine("ab", [(1, 0), (1, 1)], [0, 1]),
            Machine("ab", [(1, 0), (1, 1)], []), Machine("ab", [(1, 0), (1, 1), (1, 1)], [1]),
            Machine("abc", [(1, 0, 0), (1, 1, 1)], [1]),
        ]:
            self.assertIs(machine == other, False)
            self.assertIs(machine != other, True)

    def test_other_values_are_never_equal(self):
        parts = ("ab", [(1, 0), (1, 1)], [1])
        for value in BAD_TEXTS + BAD_NUMBERS + ["", "ab", Kind("ab", 1), parts, list(parts), parts[1]]:
            with self.subTest(value=value):
                self.assertIs(EXAMPLE == value, False)
                self.assertIs(value == EXAMPLE, False)
                self.assertIs(EXAMPLE != value, True)

    def test_bad_letters(self):
        for value in BAD_LETTERS:
            for rows in ([(0,)], [], None, [(0, 0)]):
                for lets in ([], [9], None):
                    with self.subTest(value=value, rows=rows, lets=lets):
                        self.assertIs(caught(BadLetters, Machine, value, rows, lets).value, value)
                        self.assertIs(caught(BadLetters, Machine, lets=lets, rows=rows, letters=value).value, value)

    def test_bad_rows(self):
        for value in BAD_ROWS:
            for lets in ([], [0], [9], None, value):
                with self.subTest(value=value, lets=lets):
                    self.assertIs(caught(BadRows, Machine, "ab", value, lets).value, value)
                    self.assertIs(caught(BadRows, Machine, lets=lets, rows=value, letters="ab").value, value)

    def test_bad_rows_of_other_letters(self):
        for letters, rows in [("a", [(0, 0)]), ("abc", [(0, 0)]), (ALPHABET, [(0,) * 25]), (ALPHABET, [(0,) * 27])]:
            self.assertIs(caught(BadRows, Machine, letters, rows, []).value, rows)
        self.assertEqual(Machine(ALPHABET, [(0,) * 26], []).rows, [(0,) * 26])

    def test_bad_lets(self):
        rows = [(0, 1), (1, 0)]
        for value in BAD_LETS:
            if value == [] or type(value) is list and value == [0] and type(value[0]) is int:
                continue
            with self.subTest(value=value):
                self.assertIs(caught(BadLets, Machine, "ab", rows, value).value, value)
                self.assertIs(caught(BadLets, Machine, lets=value, rows=rows, letters="ab").value, value)
        self.assertEqual(rows, [(0, 1), (1, 0)])

    def test_arguments_are_not_changed(self):
        for value in ([[0, 1]], [(0, [1])], {"a": [0]}):
            copied = repr(value)
            self.assertRaises(BadLetters, Machine, value, value, value)
            self.assertRaises(BadRows, Machine, "ab", value, value)
            self.assertRaises(BadLets, Machine, "ab", [(0, 0)], value)
            self.assertEqual(repr(value), copied)


class LetsByTest(unittest.TestCase):
    def test_example(self):
        self.assertIs(EXAMPLE.lets_by("bab"), True)

    def test_plainly(self):
        for machine in machines():
            for text in all_texts(machine.letters, 4):
                self.assertIs(machine.lets_by(text), plain_lets_by(machine, text))

    def test_long_texts(self):
        for text, right in [("b" * 200, False), ("b" * 199 + "a", True), ("a" + "b" * 199, True)]:
            self.assertIs(EXAMPLE.lets_by(text), right)
            self.assertIs(EXAMPLE.lets_by(text=text), right)
        rows = [((place + 1) % 600, (place * 7) % 600) for place in range(600)]
        machine = Machine("ab", rows, list(range(0, 600, 7)))
        for text in ["a" * 200, "ab" * 100, "aab" * 66, "b" * 200, ""]:
            self.assertIs(machine.lets_by(text), plain_place("ab", rows, text) % 7 == 0)

    def test_bad_text(self):
        for value in BAD_TEXTS:
            with self.subTest(value=value):
                self.assertIs(caught(BadText, EXAMPLE.lets_by, value).value, value)
                self.assertIs(caught(BadText, EXAMPLE.lets_by, text=value).value, value)

    def test_other_letters(self):
        for text in ["c", "z", "abc", "cab", "aca", ALPHABET, "a" * 199 + "c"]:
            self.assertIs(caught(OtherLetters, EXAMPLE.lets_by, text).value, text)
            self.assertIs(caught(OtherLetters, EXAMPLE.lets_by, text=text).value, text)
        self.assertEqual(caught(OtherLetters, Machine("bd", [(0, 0)], []).lets_by, "c").value, "c")


class LeastTextTest(unittest.TestCase):
    def test_example(self):
        self.assertEqual(EXAMPLE.least_text(), "a")

    def test_ordinary(self):
        for letters, rows, lets, least in [
            ("ab", [(0, 0)], [0], ""), ("ab", [(0, 0)], [], None), ("ab", [(0, 0), (0, 0)], [1], None),
            ("ab", [(1, 2), (3, 3), (3, 4), (3, 3), (4, 4)], [4], "bb"), ("ab", [(0, 1), (1, 1)], [1], "b"),
            ("ab", [(1, 1), (2, 3), (2, 2), (3, 3)], [3, 2], "aa"), ("bd", [(0, 1), (1, 2), (2, 2)], [2], "dd"),
        ]:
            self.assertEqual(Machine(letters, rows, lets).least_text(), least)

    def test_plainly(self):
        for machine in machines():
            longest = len(machine.rows)
            let = [text for text in all_texts(machine.letters, longest) if plain_lets_by(machine, text)]
            self.assertEqual(machine.least_text(), (let + [None])[0])

    def test_many_places(self):
        for many in (40, 600):
            rows = [(min(place + 1, many - 1), place) for place in range(many)]
            self.assertEqual(Machine("ab", rows, [many - 1]).least_text(), "a" * (many - 1))
            self.assertEqual(Machine("ab", rows, []).least_text(), None)
            rows = [((place + 1) % many,) * 6 for place in range(many)]
            self.assertEqual(Machine("abcdef", rows, [many // 2]).least_text(), "a" * (many // 2))


# Machines, with the least k by which they are told, None if there is none.
REACHED = [
    (EXAMPLE, 1), (PARITY, None), (Machine("ab", [(0, 0)], [0]), 0), (Machine("ab", [(0, 0)], []), 0),
    (Machine("ab", [(0, 0), (1, 0)], [1]), 0), (Machine("ab", [(1, 0), (0, 1)], [0, 1]), 0),
    (Machine("ab", [(1, 0), (0, 1)], [0]), None), (Machine("ab", [(1, 2), (1, 1), (2, 2)], [1]), None),
    (Machine("ab", [(1, 0), (1, 0)], [1]), None), (Machine("ab", [(1, 0), (1, 2), (2, 2)], [2]), 2),
    (Machine("a", [(1,), (2,), (3,), (3,)], [3]), 3), (Machine("a", [(1,), (2,), (3,), (3,)], [1]), 2),
    (Machine("a", [(1,), (2,), (2,)], [0, 2]), 2), (Machine("a", [(1,), (2,), (0,)], [0]), None),
    (Machine("ab", [(1, 0), (1, 2), (3, 2), (3, 3)], [3]), 3), (Machine("abc", [(1, 0, 0), (1, 1, 1)], [0]), 1),
    (Machine("a", [(min(place + 1, 19),) for place in range(20)], [19]), 19),
    (Machine("ab", [(min(place + 1, 19), place) for place in range(20)], [19]), 19),
    (Machine("ab", [((place + 1) % 20, place) for place in range(20)], [0]), None),
    (Machine("abc", [((place + 1) % 20, place, 0) for place in range(20)], [0]), None),
    (Machine("abc", [(3, 1, 1), (2, 2, 1), (2, 2, 3), (3, 3, 3)], [1]), 2),
    (Machine("ab", [(1, 1), (1, 1)], [1]), 1), (Machine("ab", [(1, 1), (2, 2), (2, 2)], [1]), 2),
]


class ToldTest(unittest.TestCase):
    """told_by, pairs, split_by and least_reach."""

    def check(self, machine, k):
        """Check what is told about k, by pairs or by two texts; tell whether the machine is told."""
        told = told_by(machine, k)
        found = pairs(machine, k)
        split = split_by(machine, k)
        self.assertEqual([found is not None, split is None], [told, told])
        if told:
            self.assertIs(type(found), list)
            self.assertIs(is_pairs(machine, k, found), True)
            self.assertIs(plain_is_pairs(machine, k, found), True)
        else:
            self.assertIs(type(split), tuple)
            let, stopped = split
            self.assertLessEqual(set(let + stopped), set(machine.letters))
            self.assertLessEqual(max(len(let), len(stopped)), 200)
            self.assertEqual([plain_lets_by(machine, let), plain_lets_by(machine, stopped)], [True, False])
            self.assertEqual(shortest(let, k), shortest(stopped, k))
            if max(len(let), len(stopped)) < 16:
                self.assertEqual(piece_set(let, k), piece_set(stopped, k))
        return told

    def test_example(self):
        self.assertIs(told_by(EXAMPLE, 0), False)
        self.assertEqual([least_reach(EXAMPLE, 3), least_reach(PARITY, 2)], [1, None])

    def test_known(self):
        for machine, least in REACHED:
            for k in (0, 1, 2, 3):
                with self.subTest(rows=machine.rows, lets=machine.lets, k=k):
                    self.assertIs(self.check(machine, k), least is not None and k >= least)

    def test_least_reach_known(self):
        for machine, least in REACHED:
            for most in (0, 1, 2, 3, 4, 18, 19, 20, 10 ** 30, HUGE):
                with self.subTest(rows=machine.rows, lets=machine.lets, most=most):
                    wanted = least if least is not None and least <= most else None
                    self.assertEqual(least_reach(machine, most), wanted)
                    self.assertIs(told_by(machine, most), wanted is not None)

    def test_small_machines(self):
        for machine in machines():
            longest = {"a": 6, "z": 6}.get(machine.letters, 2 if len(machine.letters) == 3 else 3)
            answers = [self.check(machine, k) for k in range(longest + 1)]
            self.assertEqual(answers, sorted(answers))
            for most in range(longest + 1):
                least = answers.index(True) if True in answers[:most + 1] else None
                self.assertEqual(least_reach(machine, most), least)
            if True in answers:
                self.assertEqual(least_reach(machine, HUGE), answers.index(True))

    def test_told_plainly(self):
        for machine in machines():
            for k in (0, 1, 2):
                sides = {}
                for text in all_texts(machine.letters, 5):
                    sides.setdefault(piece_set(text, k), set()).add(plain_lets_by(machine, text))
                if max([len(side) for side in sides.values()]) > 1:
                    self.assertIs(told_by(machine, k), False)
                elif told_by(machine, k) is False:
                    self.assertGreater(max([len(text) for text in split_by(machine, k)]), 5)

    def test_limits(self):
        for letters, k in [("ab", 4), ("abc", 2), ("abcd", 1), ("abcdef", 1), ("a", 60), ("ab", 1)]:
            for seed, form in [(1, "any"), (2, "onward"), (3, "onward"), (4, "any")]:
                rows, lets = drawn_parts(letters, 20, seed, form)
                self.check(Machine(letters, rows, lets), k)
                self.check(Machine(letters, rows, list(range(20))), k)

    def test_machines_of_sayings(self):
        for saying, letters, least in [
            (("has", "ab"), "ab", 2), (("not", ("has", "ab")), "ab", 2), (("has", ""), "abc", 0),
            (("has", "c"), "ab", 0),
            (("and", ("has", "a"), ("has", "b")), "ab", 1), (("or", ("has", "ab"), ("has", "ba")), "ab", 1),
            (("has", "aba"), "ab", 3), (("has", "abba"), "ab", 4), (("and", ("has", "ab"), ("has", "ba")), "ab", 2),
            (("has", "abababab"), "ab", 8), (("has", "ba"), "abc", 2), (("has", "a" * 19), "ab", 19),
        ]:
            machine = machine_of(saying, letters)
            for most in (0, 1, 2, 3, 4, 7, 8, 19, 10 ** 59):
                wanted = least if most >= least else None
                self.assertEqual(least_reach(machine, most), wanted, (saying, most))
            for k in range(min(least + 2, 5)):
                self.assertIs(self.check(machine, k), k >= least)

    def test_split_texts_are_long(self):
        for many in (20, 60, 150, 199):
            machine = Machine("a", [(1,), (0,)], [0])
            self.assertEqual(self.check(machine, many), False)
            self.assertEqual(sorted([len(text) for text in split_by(machine, many)]), [many, many + 1])

    def test_no_unlike_texts_of_so_few_letters_are_alike(self):
        for k in (200, 10 ** 30, HUGE):
            turning = Machine("abc", [(1, 0, 2), (2, 1, 1), (0, 2, 0)], [1])
            for machine in (PARITY, Machine("a", [(1,), (0,)], [0]), turning):
                self.assertIs(told_by(machine, k), False)
                self.assertIsNone(pairs(machine, k))
                self.assertIsNone(split_by(machine, k))

    def test_new_each_time(self):
        found = pairs(EXAMPLE, 1)
        kept = list(found)
        found.clear()
        self.assertEqual(sorted(pairs(EXAMPLE, 1)), sorted(kept))

    def test_by_name_and_machine_is_not_changed(self):
        self.assertIs(told_by(machine=EXAMPLE, k=1), True)
        self.assertIs(is_pairs(machine=EXAMPLE, k=1, value=pairs(k=1, machine=EXAMPLE)), True)
        self.assertEqual(len(split_by(machine=EXAMPLE, k=0)), 2)
        self.assertEqual([least_reach(machine=EXAMPLE, most=3), kinds_of(machine=EXAMPLE, k=1)], [1, ["a", "ab"]])
        self.assertEqual([least_reach(most=0, machine=EXAMPLE), kinds_of(k=0, machine=EXAMPLE)], [None, [""]])
        self.assertEqual([EXAMPLE.letters, EXAMPLE.rows, EXAMPLE.lets], ["ab", [(1, 0), (1, 1)], [1]])

    def test_bad_reach(self):
        for value in BAD_NUMBERS:
            for machine in (EXAMPLE, PARITY, Machine("a", [(0,)], [])):
                with self.subTest(value=value):
                    for function in (told_by, pairs, split_by, kinds_of):
                        self.assertIs(caught(BadReach, function, machine, value).value, value)
                        self.assertIs(caught(BadReach, function, k=value, machine=machine).value, value)
                    self.assertIs(caught(BadReach, least_reach, machine, value).value, value)
                    self.assertIs(caught(BadReach, least_reach, most=value, machine=machine).value, value)
                    for other in ([], None, value, [(0, "")]):
                        self.assertIs(caught(BadReach, is_pairs, machine, value, other).value, value)
                        self.assertIs(caught(BadReach, is_pairs, value=other, k=value, machine=machine).value, value)


class IsPairsTest(unittest.TestCase):
    def test_ordinary(self):
        right = [(0, ""), (1, "a"), (0, "b"), (1, "ab")]
        self.assertIs(is_pairs(EXAMPLE, 1, right), True)
        self.assertIs(is_pairs(EXAMPLE, 1, right[::-1]), True)
        self.assertIs(is_pairs(EXAMPLE, 1, right + [(1, "b")]), False)
        self.assertIs(is_pairs(EXAMPLE, 1, right + [(1, "a")]), False)
        self.assertIs(is_pairs(EXAMPLE, 1, right + [(0, "ab")]), False)
        self.assertIs(is_pairs(EXAMPLE, 1, right[:3]), False)
        self.assertIs(is_pairs(EXAMPLE, 0, [(0, ""), (1, "")]), False)
        self.assertIs(is_pairs(PARITY, 0, [(0, ""), (1, "")]), False)
        self.assertIs(is_pairs(Machine("ab", [(1, 1), (0, 0)], []), 0, [(0, ""), (1, "")]), True)
        self.assertIs(is_pairs(Machine("ab", [(1, 1), (0, 0)], []), 0, [(0, "")]), False)

    def test_greater_lists(self):
        # A place to which no text leads may have pairs of its own.
        machine = Machine("a", [(0,), (1,), (1,)], [0])
        self.assertIs(is_pairs(machine, 1, [(0, ""), (0, "a")]), True)
        self.assertIs(is_pairs(machine, 1, [(0, ""), (0, "a"), (1, "a")]), False)
        machine = Machine("a", [(0,), (1,), (1,)], [0, 1])
        self.assertIs(is_pairs(machine, 1, [(0, ""), (0, "a"), (1, "a")]), True)
        self.assertIs(is_pairs(machine, 1, [(0, ""), (0, "a"), (1, "")]), False)
        self.assertIs(is_pairs(machine, 1, [(0, ""), (0, "a"), (1, ""), (1, "a")]), True)
        self.assertIs(is_pairs(machine, 1, [(0, ""), (0, "a"), (2, ""), (1, "a")]), False)

    def test_changed_lists(self):
        asked = [(machine, k) for machine in machines()[:24] for k in (0, 1, 2)]
        for machine, k in asked:
            found = sorted(plain_closure(machine, k))
            values = [found, found[::-1], found + found[:1], [], found + [(0, "")], [found], tuple(found)]
            texts = ("", "a", "b", "ab", "aab", "c")
            more = [(place, text) for place in range(-1, len(machine.rows) + 1) for text in texts]
            more += [None, 0, "", "a", (), (0,), ("", 0), (0, "", 0), [0, ""], (True, ""), (False, "a"), (0, None)]
            more += [(0, 0), (0, ["a"]), (HUGE, ""), ((0,), ""), ("0", ""), (None, "a"), (0, "A"), (0, " "), {0: ""}]
            values += [found + [pair] for pair in more]
            for place in range(min(len(found), 6)):
                values.append(found[:place] + found[place + 1:])
                values += [found[:place] + [pair] + found[place + 1:] for pair in more[::3]]
                values.append(found[:place] + [found[place][::-1]] + found[place + 1:])
            for value in values:
                wanted = plain_is_pairs(machine, k, value)
                with self.subTest(rows=machine.rows, k=k, value=value):
                    self.assertIs(is_pairs(machine, k, value), wanted)

    def test_other_reaches_and_machines(self):
        for machine in machines()[:16]:
            for other in machines()[:16]:
                for k in (0, 1, 2):
                    for reach in (0, 1, 2):
                        value = sorted(plain_closure(machine, k))
                        self.assertIs(is_pairs(other, reach, value), plain_is_pairs(other, reach, value))

    def test_values_of_any_kind(self):
        for value in BAD_TEXTS + BAD_NUMBERS + [
            "", "ab", 0, 1, HUGE, (), ((0, ""),), {(0, ""): 0}, [[(0, "")]], [(0, "")], [(0, ""), (1, "a" * 500)],
            [Kind("a", 1)], [(0, Kind("a", 1))], EXAMPLE, [EXAMPLE], [(EXAMPLE, "")], [(0, "ab" * 2000)],
            [(0, "")] * 900, [(0, ""), (0, "a" * 3000)],
        ]:
            with self.subTest(value=value):
                self.assertIs(is_pairs(EXAMPLE, 1, value), False)
                self.assertIs(is_pairs(EXAMPLE, HUGE, value), False)

    def test_value_is_not_changed(self):
        for value in [[(0, ""), (1, "a"), (0, "b"), (1, "ab")], [[0, ""]], [(0, ["a"])], {"a": [0]}]:
            copied = repr(value)
            is_pairs(EXAMPLE, 1, value)
            self.assertEqual(repr(value), copied)


class KindsOfTest(unittest.TestCase):
    def test_example(self):
        self.assertEqual(kinds_of(EXAMPLE, 1), ["a", "ab"])

    def test_ordinary(self):
        for machine, k, found in [
            (EXAMPLE, 0, [""]), (EXAMPLE, 1, ["a", "ab"]), (PARITY, 0, [""]), (PARITY, 1, ["", "a", "b", "ab"]),
            (Machine("ab", [(0, 0)], []), 3, []), (Machine("ab", [(0, 0), (1, 1)], [1]), 3, []),
            (Machine("a", [(1,), (0,)], [1]), 3, ["a", "aaa"]), (Machine("a", [(1,), (0,)], [0]), 3, ["", "aa", "aaa"]),
            (Machine("ab", [(0, 1), (1, 1)], [0]), 2, ["", "a", "aa"]),
        ]:
            with self.subTest(rows=machine.rows, lets=machine.lets, k=k):
                self.assertEqual(kinds_of(machine, k), found)

    def test_plainly(self):
        for machine in machines():
            for k in (0, 1, 2):
                found = kinds_of(machine, k)
                plain = {text for place, text in plain_closure(machine, k) if place in machine.lets}
                self.assertEqual(found, sorted(plain, key=lambda text: (len(text), text)))
                short = {shortest(text, k) for text in all_texts(machine.letters, 5) if plain_lets_by(machine, text)}
                self.assertLessEqual(short, plain)

    def test_all_kinds_by_listing(self):
        for letters, rows, lets in PARTS:
            if len(rows) <= 2 and len(letters) <= 2:
                machine = Machine(letters, rows, lets)
                for k in (0, 1):
                    plain = {shortest(text, k) for text in all_texts(letters, 7) if plain_lets_by(machine, text)}
                    self.assertEqual(set(kinds_of(machine, k)), plain)

    def test_limits(self):
        for letters, k in [("ab", 4), ("abc", 2), ("abcd", 1), ("abcdef", 1), ("a", 60)]:
            rows, lets = drawn_parts(letters, 20, 9, "any")
            whole = kinds_of(Machine(letters, rows, list(range(20))), k)
            part = kinds_of(Machine(letters, rows, lets), k)
            rest = kinds_of(Machine(letters, rows, [place for place in range(20) if place not in lets]), k)
            self.assertEqual(set(part) | set(rest), set(whole))
            for text in product(letters, repeat=3):
                self.assertIn(shortest("".join(text), k), whole)

    def test_new_each_time(self):
        found = kinds_of(EXAMPLE, 1)
        found.append("x")
        self.assertEqual(kinds_of(EXAMPLE, 1), ["a", "ab"])

    def test_unhashable_values_are_refused(self):
        for value in OTHER_KINDS:
            if value is not True:
                self.assertIs(caught(BadReach, kinds_of, EXAMPLE, value).value, value)


if __name__ == "__main__":
    unittest.main()
