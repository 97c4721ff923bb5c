import unittest

from scatteredpieces.compiling import (
    few_paper, fewest, is_few_paper, is_shared, machine_of, opposite, parted, shared,
)
from scatteredpieces.errors import BadLetters, BadSaying, OtherLetters
from scatteredpieces.kinds import Kind
from scatteredpieces.machines import Machine
from scatteredpieces.sayings import keeps
from tests.plain import (
    ALPHABET, BAD_LETTERS, BAD_NUMBERS, BAD_TEXTS, HUGE, all_texts, caught, drawn, drawn_parts, nested, plain_place,
    small_parts, some_sayings,
)

SOME = some_sayings()
MACHINES = [Machine(letters, rows, lets) for letters, rows, lets in small_parts()]
SAME_LETTERS = [machine for machine in MACHINES if machine.letters == "ab"]
# Machines that have the fewest places, among others that have not.
FEW = [fewest(machine) for machine in MACHINES]
CHAIN = Machine("ab", [(min(place + 1, 599), place) for place in range(600)], [599])
WHEEL = Machine("ab", [((place + 1) % 600, (place * 5) % 600) for place in range(600)], [0])


def drawn_texts(letters, longest, many):
    texts = []
    for seed in range(many):
        numbers = drawn(seed + 7, longest)
        texts.append("".join([letters[number % len(letters)] for number in numbers])[:numbers[0] % (longest + 1)])
    return texts


def let_from(machine, place, text):
    return plain_place(machine.letters, machine.rows, text, place) in machine.lets


def plain_apart(machine):
    """List the pairs of places that some text parts, by the table that is filled from pairs that are parted."""
    many = len(machine.rows)
    lets = machine.lets
    pairs = [(one, other) for one in range(many) for other in range(one + 1, many)]
    apart = {pair for pair in pairs if (pair[0] in lets) != (pair[1] in lets)}
    grown = True
    while grown:
        more = {
            (one, other) for one, other in pairs
            if any(tuple(sorted(ends)) in apart for ends in zip(machine.rows[one], machine.rows[other]))
        } - apart
        grown = bool(more)
        apart |= more
    return apart


def plain_led(machine):
    """Map the places to which texts lead to the least ones, from a listing of texts."""
    longest = len(machine.rows) - 1
    led = {}
    for text in all_texts(machine.letters, longest):
        led.setdefault(plain_place(machine.letters, machine.rows, text), text)
    return led


def plain_is_few_paper(machine, value):
    """Tell by the words of the document whether any value is a paper."""
    letters, rows = machine.letters, machine.rows
    if type(value) is not tuple or len(value) != 2 or type(value[0]) is not list or type(value[1]) is not dict:
        return False
    words, partings = value
    if not all(type(word) is str and set(word) <= set(letters) for word in words + list(partings.values())):
        return False
    if [plain_place(letters, rows, word) for word in words] != list(range(len(rows))):
        return False
    if not all(type(pair) is tuple and [type(place) for place in pair] == [int, int] for pair in partings):
        return False
    if set(partings) != {(one, other) for other in range(len(rows)) for one in range(other)}:
        return False
    return all(
        let_from(machine, one, word) != let_from(machine, other, word) for (one, other), word in partings.items()
    )


def plain_is_shared(one, other, value):
    """Tell by the words of the document whether any value is shared places."""
    if type(value) is not list:
        return False
    for pair in value:
        if type(pair) is not tuple or [type(place) for place in pair] != [int, int]:
            return False
        if not (0 <= pair[0] < len(one.rows) and 0 <= pair[1] < len(other.rows)):
            return False
    known = set(value)
    if len(known) != len(value) or (0, 0) not in known:
        return False
    return all(
        (place in one.lets) == (opposed in other.lets)
        and set(zip(one.rows[place], other.rows[opposed])) <= known for place, opposed in value
    )


def plain_meeting(one, other):
    """List the pairs of places to which texts lead, in the sequence of the least ones; map them to these."""
    met = {(0, 0): ""}
    for text in all_texts(one.letters, 8):
        pair = plain_place(one.letters, one.rows, text), plain_place(other.letters, other.rows, text)
        met.setdefault(pair, text)
    return met


class MachineOfTest(unittest.TestCase):
    def check(self, saying, letters, longest):
        machine = machine_of(saying, letters)
        self.assertIs(type(machine), Machine)
        self.assertEqual(machine.letters, letters)
        self.assertLessEqual(len(machine.rows), 600)
        for text in all_texts(letters, longest) + drawn_texts(letters, 60, 20):
            self.assertIs(machine.lets_by(text), keeps(text, saying), (saying, text))
        return machine

    def test_example(self):
        some = fewest(machine_of(("and", ("has", "a"), ("has", "b")), "ab"))
        self.assertEqual([some.rows, some.lets], [[(1, 2), (1, 3), (3, 2), (3, 3)], [3]])

    def test_sayings(self):
        for saying in SOME:
            self.check(saying, "ab", 5)
        for saying in SOME[::4]:
            self.check(saying, "abc", 4)
            self.check(saying, "a", 6)
            self.check(saying, "xyz", 2)
            self.check(saying, "bd", 4)

    def test_ordinary(self):
        for saying, letters, rows, lets in [
            (("has", ""), "ab", [(0, 0)], [0]), (("not", ("has", "")), "ab", [(0, 0)], []),
            (("has", "ab"), "ab", [(1, 0), (1, 2), (2, 2)], [2]), (("has", "c"), "ab", [(0, 0)], []),
            (("not", ("has", "ac")), "ab", [(0, 0)], [0]), (("has", "aaa"), "a", [(1,), (2,), (3,), (3,)], [3]),
            (("has", "b"), "abc", [(0, 1, 0), (1, 1, 1)], [1]),
        ]:
            with self.subTest(saying=saying, letters=letters):
                some = fewest(machine_of(saying, letters))
                self.assertEqual([some.letters, some.rows, some.lets], [letters, rows, lets])

    def test_limits(self):
        for saying in [
            ("has", "ab" * 100), ("has", "ab" * 299), ("and", ("has", "ab" * 11), ("not", ("has", "ba" * 12))),
            ("or", ("and", ("has", "aab"), ("has", "bba")), ("and", ("has", "abab"), ("not", ("has", "bbbbb")))),
        ]:
            self.check(saying, "ab", 4)
        words = all_texts("ab", 2)[1:]
        joined = ("and", ("or", ("has", "a"), ("not", ("has", "b"))), ("not", ("and", ("has", "aa"), ("has", "ab"))))
        self.check(("or", joined, ("and", ("has", words[-1]), ("has", words[-2]))), "ab", 6)
        for word in ("not", "and", "or", "left", "right"):
            self.check(nested(word, 10), "ab", 5)
        self.check(("has", ALPHABET), ALPHABET, 1)

    def test_bad_saying(self):
        for value in BAD_TEXTS + BAD_NUMBERS + [
            "", "has a", 0, ("has",), ("has", "A"), ["has", "a"], ("not", "a"), nested("not", 11), Kind("a", 1),
            ("has", 1),
        ]:
            for letters in ("ab", "", None, "ba", value):
                with self.subTest(value=value, letters=letters):
                    self.assertIs(caught(BadSaying, machine_of, value, letters).value, value)
                    self.assertIs(caught(BadSaying, machine_of, letters=letters, saying=value).value, value)

    def test_bad_letters(self):
        for value in BAD_LETTERS:
            with self.subTest(value=value):
                self.assertIs(caught(BadLetters, machine_of, ("has", "a"), value).value, value)
                self.assertIs(caught(BadLetters, machine_of, letters=value, saying=nested("or", 10)).value, value)


class OppositeTest(unittest.TestCase):
    def test_lets_by_just_the_others(self):
        for machine in MACHINES:
            other = opposite(machine)
            self.assertIs(type(other), Machine)
            self.assertEqual([other.letters, other.rows], [machine.letters, machine.rows])
            self.assertEqual(sorted(other.lets + machine.lets), list(range(len(machine.rows))))
            for text in all_texts(machine.letters, 4):
                self.assertIsNot(other.lets_by(text), machine.lets_by(text))
            self.assertTrue(opposite(machine=other) == machine)

    def test_it_is_one_of_the_saying_with_not(self):
        for saying in SOME[:40]:
            self.assertIsNone(parted(opposite(machine_of(saying, "ab")), machine_of(("not", saying), "ab")))


class FewestTest(unittest.TestCase):
    def test_small_machines(self):
        for machine in MACHINES:
            given = [machine.letters, machine.rows, machine.lets]
            some = fewest(machine)
            self.assertIs(type(some), Machine)
            self.assertEqual(some.letters, machine.letters)
            for text in all_texts(machine.letters, 5):
                self.assertIs(some.lets_by(text), machine.lets_by(text))
            # It is led everywhere, in the sequence of the least texts, and any two places are parted.
            led = plain_led(some)
            self.assertEqual(list(led), list(range(len(some.rows))))
            self.assertEqual(len(plain_apart(some)), len(some.rows) * (len(some.rows) - 1) // 2)
            self.assertTrue(fewest(some) == some)
            self.assertTrue(fewest(machine=machine) == some)
            self.assertEqual([machine.letters, machine.rows, machine.lets], given)

    def test_ordinary(self):
        for letters, rows, lets, few_rows, few_lets in [
            ("a", [(0,)], [0], [(0,)], [0]), ("a", [(1,), (0,)], [], [(0,)], []),
            ("a", [(1,), (0,)], [0, 1], [(0,)], [0]),
            ("a", [(0,), (0,), (1,)], [1], [(0,)], []), ("a", [(2,), (0,), (1,)], [2], [(1,), (2,), (0,)], [1]),
            ("ab", [(2, 1), (1, 1), (2, 2)], [1], [(1, 2), (1, 1), (2, 2)], [2]),
            ("ab", [(2, 1), (1, 1), (2, 2)], [1, 2], [(1, 1), (1, 1)], [1]),
            ("ab", [(3, 2), (1, 1), (2, 3), (3, 2)], [2], [(0, 1), (1, 0)], [1]),
            ("ab", [(0, 2), (1, 1), (1, 2)], [1], [(0, 1), (2, 1), (2, 2)], [2]),
        ]:
            with self.subTest(rows=rows, lets=lets):
                some = fewest(Machine(letters, rows, lets))
                self.assertEqual([some.letters, some.rows, some.lets], [letters, few_rows, few_lets])

    def test_same_for_machines_that_do_the_same(self):
        for one in SAME_LETTERS:
            for other in SAME_LETTERS:
                self.assertIs(fewest(one) == fewest(other), parted(one, other) is None)

    def test_doubled_and_renumbered(self):
        for machine in FEW[:40]:
            many = len(machine.rows)
            # Each place stands twice, and the rows lead now to the one, now to the other; then all are turned round.
            rows = [tuple([target + many * (at % 2) for at, target in enumerate(row)]) for row in machine.rows]
            rows += [tuple([target + many * (at % 3 % 2) for at, target in enumerate(row)]) for row in machine.rows]
            lets = machine.lets + [place + many for place in machine.lets]
            turned = [0] + list(range(2 * many - 1, 0, -1))
            moved = [tuple([turned[target] for target in rows[place]]) for place in turned]
            other = Machine(machine.letters, moved, [turned[place] for place in lets])
            self.assertTrue(fewest(other) == machine)

    def test_six_hundred_places(self):
        self.assertTrue(fewest(CHAIN) == CHAIN)
        self.assertEqual(len(fewest(WHEEL).rows), 600)
        self.assertEqual(fewest(Machine("ab", CHAIN.rows, [])).rows, [(0, 0)])
        rows, lets = drawn_parts("abcdef", 600, 3, "any")
        some = fewest(Machine("abcdef", rows, lets))
        self.assertGreater(len(some.rows), 400)
        self.assertTrue(fewest(some) == some)
        doubled = [((place + 2) % 600, place) for place in range(600)]
        self.assertEqual(len(fewest(Machine("ab", doubled, list(range(0, 600, 10)))).rows), 5)
        self.assertEqual(len(fewest(machine_of(("has", "ab" * 299), "ab")).rows), 599)


class FewPaperTest(unittest.TestCase):
    def test_example(self):
        self.assertIs(is_few_paper(Machine("a", [(1,), (1,)], [1]), (["", "a"], {(0, 1): ""})), True)

    def check(self, machine):
        paper = few_paper(machine)
        if paper is None:
            return None
        self.assertEqual([type(paper), type(paper[0]), type(paper[1])], [tuple, list, dict])
        self.assertIs(plain_is_few_paper(machine, paper), True)
        self.assertIs(is_few_paper(machine, paper), True)
        return paper

    def test_just_if_there_are_the_fewest_places(self):
        for machine in MACHINES + FEW:
            few = len(fewest(machine).rows) == len(machine.rows)
            self.assertIs(self.check(machine) is not None, few)

    def test_any_numbering(self):
        machine = Machine("ab", [(2, 1), (1, 1), (2, 2)], [1])
        self.assertFalse(fewest(machine) == machine)
        words, partings = self.check(machine)
        self.assertEqual(words, ["", "b", "a"])
        self.assertEqual(sorted(partings), [(0, 1), (0, 2), (1, 2)])

    def test_one_place(self):
        for lets in ([], [0]):
            machine = Machine("ab", [(0, 0)], lets)
            self.assertEqual(few_paper(machine), ([""], {}))
            for word in ("", "a", "ab" * 300):
                self.assertIs(is_few_paper(machine, ([word], {})), True)
            wrong = [([], {}), (["c"], {}), ([""], {(0, 0): ""}), ([""], {(0, 1): ""}), ([""], []), ([""],), [[""], {}]]
            for value in wrong:
                self.assertIs(is_few_paper(machine, value), False)

    def test_six_hundred_places(self):
        rows, lets = drawn_parts("abcdef", 600, 3, "any")
        for machine in (CHAIN, WHEEL, fewest(Machine("abcdef", rows, lets))):
            words, partings = few_paper(machine)
            many = len(machine.rows)
            self.assertEqual(len(partings), many * (many - 1) // 2)
            self.assertIs(is_few_paper(machine, (words, partings)), True)
            for pair in [(0, 1), (many - 2, many - 1), (17, 230)]:
                changed = dict(partings)
                changed[pair] = "a" * 600 if machine is CHAIN else changed[pair] + "A"
                self.assertIs(is_few_paper(machine, (words, changed)), False)
                self.assertIs(is_few_paper(machine, (words[:pair[0]] + ["z"] + words[pair[0] + 1:], partings)), False)
                del changed[pair]
                self.assertIs(is_few_paper(machine, (words, changed)), False)
        longer = {(one, other): "b" * (other % 7) + "a" * (599 - other) for one, other in few_paper(CHAIN)[1]}
        self.assertIs(is_few_paper(CHAIN, (["a" * place for place in range(600)], longer)), True)
        self.assertIs(is_few_paper(CHAIN, (["b" + "a" * place for place in range(600)], longer)), True)
        longer[3, 4] = "a" * 594
        self.assertIs(is_few_paper(CHAIN, (["a" * place for place in range(600)], longer)), False)
        self.assertIsNone(few_paper(Machine("ab", CHAIN.rows, [])))

    def test_changed_papers(self):
        for machine in [machine for machine in FEW if 2 <= len(machine.rows) <= 4][:14] + MACHINES[:3]:
            paper = few_paper(fewest(machine))
            words, partings = paper
            letters = machine.letters
            texts = ["", letters[0], letters[-1], letters[0] * 2, letters, letters[::-1] * 3, "q", "A", " "]
            more = texts + [None, 0, True, (), [], ["a"], ("a",), {}]
            values = [paper, [words, partings], (partings, words), (words,), (words, partings, {}), words, partings]
            values += [(tuple(words), partings), (words, sorted(partings.items())), (words[::-1], partings)]
            values += [(words + [""], partings), (words[:-1], partings), ([], partings), ({}, partings), (words, [])]
            values += [(words, {}), (words, None), (None, partings)]
            for at in range(len(words)):
                values += [(words[:at] + [word] + words[at + 1:], partings) for word in more]
            for pair in partings:
                rest = {each: partings[each] for each in partings if each != pair}
                values.append((words, rest))
                values += [(words, {**partings, pair: word}) for word in more]
                keys = [pair[::-1], (*pair, 0), pair[0], str(pair), (pair[0],), (pair, 0), (-1, pair[1]), None, ""]
                keys += [(pair[0], len(words)), (pair[0], pair[0]), (str(pair[0]), pair[1]), (pair[0], HUGE), ()]
                keys += [(bool(pair[0]), pair[1]), (pair[0], pair[1] == 1)]
                values += [(words, {**rest, key: partings[pair]}) for key in keys]
                values += [(words, {**partings, key: partings[pair]}) for key in keys]
            answers = []
            for value in values:
                wanted = plain_is_few_paper(fewest(machine), value)
                answers.append(wanted)
                with self.subTest(rows=machine.rows, value=value):
                    self.assertIs(is_few_paper(fewest(machine), value), wanted)
            self.assertIn(True, answers)
            self.assertIn(False, answers)

    def test_papers_of_other_machines(self):
        papers = [few_paper(machine) for machine in FEW if machine.letters == "ab"]
        for machine in SAME_LETTERS:
            for paper in papers:
                self.assertIs(is_few_paper(machine, paper), plain_is_few_paper(machine, paper))

    def test_values_of_any_kind(self):
        machine = Machine("a", [(1,), (1,)], [1])
        for value in BAD_TEXTS + BAD_NUMBERS + [
            "", "a", 0, HUGE, (), ((), ()), ([], {}), (["", "a"], {}), (["", "a"], {(0, 1): "b"}),
            (["", "a"], {(0, 1): "a"}),
            (["", "a"], {(False, True): ""}), (["", "a"], {(0, True): ""}), (["a", ""], {(0, 1): ""}), machine,
            (machine, {}),
            (["", "a"], {(0, 1): Kind("", 1)}), (["", Kind("a", 1)], {(0, 1): ""}), (["", "a"], {(0, 1): [""]}),
            (["", "a"], [((0, 1), "")]), (["", "a"], {0: {1: ""}}), (["", "a" * 9000], {(0, 1): "a" * 9000}),
        ]:
            with self.subTest(value=value):
                self.assertIs(is_few_paper(machine, value), False)
        self.assertIs(is_few_paper(machine=machine, value=(["", "a" * 9000], {(0, 1): ""})), True)

    def test_new_each_time_and_value_is_not_changed(self):
        machine = Machine("a", [(1,), (1,)], [1])
        words, partings = few_paper(machine=machine)
        words.clear()
        partings.clear()
        self.assertEqual(few_paper(machine), (["", "a"], {(0, 1): ""}))
        for value in [(["", "a"], {(0, 1): ""}), (["", ["a"]], {(0, 1): [""]}), [["a"], {"a": [0]}]]:
            copied = repr(value)
            is_few_paper(machine, value)
            self.assertEqual(repr(value), copied)


class PartedTest(unittest.TestCase):
    def test_example(self):
        some = fewest(machine_of(("and", ("has", "a"), ("has", "b")), "ab"))
        self.assertEqual(parted(some, Machine("ab", [(0, 0)], [])), "ab")

    def test_plainly(self):
        groups = {}
        for machine in MACHINES:
            groups.setdefault(machine.letters, []).append(machine)
        for letters, group in groups.items():
            longest = {1: 12, 2: 7, 3: 5}[len(letters)]
            texts = all_texts(letters, longest)
            let = [[machine.lets_by(text) for text in texts] for machine in group]
            for one, mine in zip(group, let):
                for other, others in zip(group, let):
                    unlike = [text for text, here, there in zip(texts, mine, others) if here != there]
                    found = parted(one, other)
                    if unlike:
                        self.assertEqual(found, unlike[0])
                    elif found is not None:
                        self.assertGreater(len(found), longest)
                        self.assertNotEqual(one.lets_by(found), other.lets_by(found))
                    else:
                        self.assertIs(is_shared(one, other, shared(one, other)), True)

    def test_of_long_texts_the_least(self):
        rows = [((place + 1) % 600,) for place in range(600)]
        fewer = [((place + 1) % 599,) for place in range(599)]
        self.assertEqual(parted(Machine("a", rows, [0]), Machine("a", fewer, [0])), "a" * 599)
        self.assertEqual(parted(Machine("a", rows, [5]), Machine("a", fewer, [5])), "a" * 604)
        rest = [place for place in range(600) if place != 599]
        self.assertEqual(parted(Machine("a", rows, rest), Machine("a", [(0,)], [0])), "a" * 599)
        self.assertEqual(parted(CHAIN, Machine("ab", CHAIN.rows, [])), "a" * 599)
        self.assertEqual(parted(CHAIN, Machine("ab", CHAIN.rows, [598, 599])), "a" * 598)
        self.assertIsNone(parted(WHEEL, fewest(WHEEL)))
        self.assertEqual(parted(WHEEL, opposite(WHEEL)), "")

    def test_other_letters(self):
        for letters in ("a", "abc", "ac", "b", ALPHABET):
            other = Machine(letters, [(0,) * len(letters)], [])
            for one in (Machine("ab", [(0, 0)], []), CHAIN):
                for function in (parted, shared):
                    self.assertEqual(caught(OtherLetters, function, one, other).value, letters)
                    self.assertEqual(caught(OtherLetters, function, other=other, one=one).value, letters)
                    self.assertEqual(caught(OtherLetters, function, other, one).value, "ab")
                for value in ([(0, 0)], None, [], "a"):
                    self.assertEqual(caught(OtherLetters, is_shared, one, other, value).value, letters)
                    self.assertEqual(caught(OtherLetters, is_shared, value=value, other=other, one=one).value, letters)

    def test_by_name_and_machines_are_not_changed(self):
        one = Machine("ab", [(1, 0), (1, 1)], [1])
        other = Machine("ab", [(1, 1), (0, 1)], [1])
        self.assertEqual(parted(one=one, other=other), parted(other=other, one=one))
        self.assertEqual(parted(one, other), "b")
        self.assertIsNone(shared(other=other, one=one))
        self.assertEqual([one.rows, one.lets, other.rows, other.lets], [[(1, 0), (1, 1)], [1], [(1, 1), (0, 1)], [1]])


class SharedTest(unittest.TestCase):
    def test_ordinary(self):
        one = Machine("ab", [(1, 0), (1, 1)], [1])
        self.assertEqual(sorted(shared(one, one)), [(0, 0), (1, 1)])
        other = Machine("ab", [(2, 0), (2, 1), (1, 2)], [1, 2])
        self.assertEqual(sorted(shared(one, other)), [(0, 0), (1, 1), (1, 2)])
        self.assertEqual(sorted(shared(other, one)), [(0, 0), (1, 1), (2, 1)])
        self.assertIsNone(shared(one, Machine("ab", [(0, 0)], [])))

    def test_just_if_they_do_the_same(self):
        for one in SAME_LETTERS:
            for other in SAME_LETTERS + [fewest(one)]:
                found = shared(one, other)
                self.assertIs(found is None, parted(one, other) is not None)
                if found is not None:
                    self.assertIs(type(found), list)
                    self.assertIs(is_shared(one, other, found), True)
                    self.assertIs(plain_is_shared(one, other, found), True)

    def test_many_pairs(self):
        rows = [((place + 1) % 600,) for place in range(600)]
        fewer = [((place + 1) % 599,) for place in range(599)]
        one = Machine("a", rows, list(range(600)))
        other = Machine("a", fewer, list(range(599)))
        found = shared(one, other)
        self.assertEqual(len(set(found)), 600 * 599)
        self.assertIs(is_shared(one, other, found), True)
        self.assertIs(is_shared(one, other, found[:-1]), False)
        self.assertIs(is_shared(one, other, found + found[:1]), False)
        for machine in (CHAIN, WHEEL):
            self.assertIs(is_shared(machine, fewest(machine), shared(machine, fewest(machine))), True)

    def test_changed_lists(self):
        pairs = [(one, other) for one in SAME_LETTERS[:12] for other in SAME_LETTERS[:12] + [fewest(one)]]
        for one, other in pairs:
            found = sorted(plain_meeting(one, other))
            values = [found, found[::-1], found + found[:1], found[1:], [], tuple(found), [found], [list(found[0])]]
            places = [-1, 0, 1, len(one.rows) - 1, len(one.rows), len(other.rows), True, None, "0"]
            more = [(place, opposed) for place in places for opposed in places]
            more += [None, 0, "", (), (0,), (0, 0, 0), [0, 0], ((0, 0),), (0, [0]), {0: 0}, (HUGE, 0), (0, (0,))]
            values += [found + [pair] for pair in more]
            for at in range(len(found)):
                values.append(found[:at] + found[at + 1:])
                values.append(found[:at] + [found[at][::-1]] + found[at + 1:])
                values += [found[:at] + [pair] + found[at + 1:] for pair in more[::5]]
            for value in values:
                with self.subTest(one=one.rows, other=other.rows, value=value):
                    self.assertIs(is_shared(one, other, value), plain_is_shared(one, other, value))

    def test_greater_lists(self):
        # Places to which no text leads may be shared, too.
        one = Machine("a", [(0,), (1,)], [0, 1])
        for value, right in [
            ([(0, 0)], True), ([(0, 0), (1, 1)], True), ([(1, 0), (0, 0)], True), ([(1, 1)], False),
            ([(0, 0), (0, 1), (1, 0), (1, 1)], True), ([(0, 0), (0, 0)], False),
        ]:
            self.assertIs(is_shared(one, one, value), right)
        other = Machine("a", [(0,), (1,)], [0])
        self.assertIs(is_shared(one, other, [(0, 0)]), True)
        self.assertIs(is_shared(one, other, [(0, 0), (0, 1)]), False)
        self.assertIs(is_shared(other, one, [(0, 0), (1, 1)]), False)

    def test_values_of_any_kind(self):
        one = Machine("ab", [(1, 0), (1, 1)], [1])
        for value in BAD_TEXTS + BAD_NUMBERS + [
            "", 0, HUGE, ((0, 0), (1, 1)), {(0, 0): (1, 1)}, [(0, 0), (1, True)], one, [one, one],
            [(one, one)], [(0, 0), Kind("a", 1)], [(0, 0)] * 5000, list(range(5000)), [(0, 0), (1, 1), (1, 0)],
        ]:
            with self.subTest(value=value):
                self.assertIs(is_shared(one, one, value), False)
        self.assertIs(is_shared(one=one, other=one, value=[(1, 1), (0, 0)]), True)

    def test_new_each_time_and_value_is_not_changed(self):
        one = Machine("ab", [(1, 0), (1, 1)], [1])
        shared(one, one).clear()
        self.assertEqual(sorted(shared(one, one)), [(0, 0), (1, 1)])
        for value in [[(1, 1), (0, 0)], [[0, 0]], [(0, [0])], {"a": [0]}]:
            copied = repr(value)
            is_shared(one, one, value)
            self.assertEqual(repr(value), copied)


if __name__ == "__main__":
    unittest.main()
