"""Machines that go through texts from place to place, and up to which k pieces tell what they let by."""

from scatteredpieces.errors import BadLets, BadRows, OtherLetters
from scatteredpieces.shortest import is_shortest, shortest
from scatteredpieces.texts import check_letters, check_reach, check_text, is_from_zero, is_over, least_first

LONGEST = 200


def is_place(value, many):
    """Tell whether any value is one of so many places."""
    return is_from_zero(value) and value < many


def is_row(value, width, many):
    """Tell whether any value is a tuple of so many places, each one of many."""
    return isinstance(value, tuple) and len(value) == width and all([is_place(place, many) for place in value])


def check_rows(letters, value):
    """Raise BadRows for any value that is no list of one or more rows of places."""
    if not isinstance(value, list) or value == [] or not all([is_row(row, len(letters), len(value)) for row in value]):
        raise BadRows(value)


def check_lets(many, value):
    """Raise BadLets for any value that is no list of unlike ones of so many places."""
    if not isinstance(value, list) or not all([is_place(place, many) for place in value]):
        raise BadLets(value)
    if len(set(value)) < len(value):
        raise BadLets(value)


def place_behind(letters, rows, text, place=0):
    """Give the place to which the text leads from a place."""
    for letter in text:
        place = rows[place][letters.index(letter)]
    return place


def leading_words(letters, rows):
    """Map the places to which texts lead to the least ones that do, in the sequence of these texts."""
    words = {0: ""}
    found = [0]
    at = 0
    while at < len(found):
        for letter, target in zip(letters, rows[found[at]]):
            if target not in words:
                words[target] = words[found[at]] + letter
                found.append(target)
        at += 1
    return words


class Machine:
    """A machine over letters, which lets by the texts that end at some of its places."""

    def __init__(self, letters, rows, lets):
        check_letters(letters)
        check_rows(letters, rows)
        check_lets(len(rows), lets)
        self._letters = letters
        self._rows = list(rows)
        self._lets = sorted(lets)

    @property
    def letters(self):
        """Give the letters."""
        return self._letters

    @property
    def rows(self):
        """List the rows."""
        return list(self._rows)

    @property
    def lets(self):
        """List the places at which the machine lets by, ascending."""
        return list(self._lets)

    def __eq__(self, other):
        if not isinstance(other, Machine):
            return False
        return self._letters == other._letters and self._rows == other._rows and self._lets == other._lets

    def lets_by(self, text):
        """Tell whether the machine lets the text by."""
        check_text(text)
        if not is_over(text, self._letters):
            raise OtherLetters(text)
        return place_behind(self._letters, self._rows, text) in self._lets

    def least_text(self):
        """Give the least text that the machine lets by, None if there is none."""
        for place, word in leading_words(self._letters, self._rows).items():
            if place in self._lets:
                return word
        return None


def splits(letters, rows, lets):
    """List what parts the places: texts, each one with places from which it is let by, and others from which it is not.

    Each split parts places that no split ahead of it has parted. So there is one less than there are unlike ones
    among the places, and any two unlike ones are parted by just one.
    """
    blocks = [list(range(len(rows)))]
    words = [("", [place in lets for place in range(len(rows))])]
    found = []
    at = 0
    while blocks and at < len(words):
        word, let = words[at]
        many = len(found)
        parts = []
        for block in blocks:
            yes = [place for place in block if let[place]]
            no = [place for place in block if not let[place]]
            parts.extend([part for part in (yes, no) if len(part) > 1])
            if yes and no:
                found.append((word, yes, no))
        # Behind a letter, only what has parted places can part others.
        if len(found) > many:
            for number, letter in enumerate(letters):
                words.append((letter + word, [let[row[number]] for row in rows]))
        blocks = parts
        at += 1
    return found


def led_parts(machine):
    """Give the rows and lets without places to which no text leads, numbered in the sequence of the least texts."""
    rows = machine.rows
    words = leading_words(machine.letters, rows)
    numbers = {place: number for number, place in enumerate(words)}
    led = [tuple([numbers[target] for target in rows[place]]) for place in words]
    return led, [numbers[place] for place in machine.lets if place in numbers]


def fewest_parts(machine):
    """Give the rows and lets of the machine that does the same with the fewest places."""
    rows, lets = led_parts(machine)
    blocks = [0 for _ in rows]
    for number, (_, yes, _) in enumerate(splits(machine.letters, rows, lets)):
        for place in yes:
            blocks[place] = number + 1
    numbers = {}
    for block in blocks:
        numbers.setdefault(block, len(numbers))
    firsts = [blocks.index(block) for block in numbers]
    fewer = [tuple([numbers[blocks[target]] for target in rows[place]]) for place in firsts]
    return fewer, [number for number, place in enumerate(firsts) if place in lets]


def goes_back(rows):
    """Tell whether some text leads from a place to another one and back."""
    left = []
    onward = list(range(len(rows)))
    while len(onward) != len(left):
        left = onward
        onward = [place for place in left if [target for target in rows[place] if target != place and target in left]]
    return left != []


def resting_place(rows, place, one, other):
    """Give the place at which both of two letters leave a machine in the end."""
    while rows[place][one] != place or rows[place][other] != place:
        place = rows[place][other] if rows[place][one] == place else rows[place][one]
    return place


def rests_alike(rows):
    """Tell whether the machine comes to rest at one place, whichever of two letters comes first."""
    width = len(rows[0])
    for row in rows:
        for one in range(width):
            for other in range(one):
                if resting_place(rows, row[one], one, other) != resting_place(rows, row[other], one, other):
                    return False
    return True


def ways_on(ways, at, limit):
    """Give the ways of each letter next to a text, up to a limit, once the letter with this number stands there."""
    farther = min(ways[at] + 1, limit)
    return tuple([farther if number == at else min(way, farther) for number, way in enumerate(ways)])


def is_covered(ways, other):
    """Tell whether the other ways are all as long as these, or longer."""
    return all([way <= longer for way, longer in zip(ways, other)])


def longest_ways(steps, width, limit):
    """Map each state to the longest way that each of so many letters has next to the texts that lead there.

    The steps of a state are pairs of a letter's number and a state. Ways are counted up to a limit.
    """
    # Some text leads to each state, and no way next to it is shorter than one letter.
    first = tuple([1 for _ in range(width)])
    found = {state: [first] for state in steps}
    left = [(state, first) for state in steps]
    while left:
        state, ways = left.pop()
        # The longer ways are, the longer they stay: so those that others cover are left out.
        if ways in found[state]:
            for at, target in steps[state]:
                longer = ways_on(ways, at, limit)
                if not [other for other in found[target] if is_covered(longer, other)]:
                    found[target] = [other for other in found[target] if not is_covered(other, longer)] + [longer]
                    left.append((target, longer))
    return {state: [max(row) for row in zip(*kept)] for state, kept in found.items()}


def ways_ahead(rows, limit):
    """Map the places to the longest way of each letter behind the texts that lead there."""
    return longest_ways({place: list(enumerate(row)) for place, row in enumerate(rows)}, len(rows[0]), limit)


def ways_behind(rows, limit):
    """Map pairs of places to the longest way of each letter ahead of the texts that just one of both lets by."""
    places = range(len(rows))
    both = [(one, other) for one in places for other in places if one != other]
    # Such texts are gone through from their end: a step leads from a pair to one ahead of it.
    steps = {pair: [] for pair in both}
    for one, other in both:
        for at, targets in enumerate(zip(rows[one], rows[other])):
            if targets in steps:
                steps[targets].append((at, (one, other)))
    return longest_ways(steps, len(rows[0]), limit)


def is_told(rows, k):
    """Tell whether a machine with the fewest places, which have these rows, is told by pieces up to k.

    A text stays alike up to k if a letter goes whose ways ahead and behind come to more than k + 1. So the machine
    is told just if no such letter, by going, changes whether a text is let by.
    """
    ahead = ways_ahead(rows, k + 1)
    behind = ways_behind(rows, k + 1)
    for place, row in enumerate(rows):
        for at, target in enumerate(row):
            if target != place and ahead[place][at] + behind[target, place][at] > k + 1:
                return False
    return True


def least_reach(machine, most):
    """Give the least k up to most by which the machine is told, None if there is none."""
    check_reach(most)
    rows, _ = fewest_parts(machine)
    # Just the machines that never go back, and rest alike, are told by any k: by one less than their places at most.
    if goes_back(rows) or not rests_alike(rows):
        return None
    k = 0
    while k <= most:
        if is_told(rows, k):
            return k
        k += 1
    return None


def told_by(machine, k):
    """Tell whether the machine lets by all or none of texts that are alike up to k."""
    return least_reach(machine, k) is not None


def led_pairs(machine, k):
    """Map the pairs of a place and a shortest text, to which texts lead, to the least texts that do, in their order."""
    letters = machine.letters
    rows = machine.rows
    behind = {}
    words = {(0, ""): ""}
    found = [(0, "")]
    at = 0
    while at < len(found):
        pair = found[at]
        place, text = pair
        if text not in behind:
            behind[text] = [shortest(text + letter, k) for letter in letters]
        for letter, target, longer in zip(letters, rows[place], behind[text]):
            if (target, longer) not in words:
                words[target, longer] = words[pair] + letter
                found.append((target, longer))
        at += 1
    return words


def pairs(machine, k):
    """List pairs that show that the machine is told by pieces up to k, None if it is not."""
    if not told_by(machine, k):
        return None
    return list(led_pairs(machine, k))


def split_by(machine, k):
    """Give two texts, alike up to k, of which the machine lets by just the first one, None if there are none."""
    # Unlike texts of so few letters are never alike up to that many.
    if told_by(machine, k) or k >= LONGEST:
        return None
    lets = machine.lets
    let = {}
    stopped = {}
    # The texts come in their order: so the first ones that are split are as short as can be.
    for (place, text), word in led_pairs(machine, k).items():
        side = let if place in lets else stopped
        if text not in side:
            side[text] = word
        if text in let and text in stopped:
            return let[text], stopped[text]
    return None


def is_told_alike(lets, value):
    """Tell whether no two of the pairs have the same text and are let by just once."""
    told = {}
    for place, text in value:
        if told.setdefault(text, place in lets) != (place in lets):
            return False
    return True


def is_pair(machine, value):
    """Tell whether any value is a pair of a place of the machine and a text over its letters."""
    if not isinstance(value, tuple) or len(value) != 2:
        return False
    return is_place(value[0], len(machine.rows)) and is_over(value[1], machine.letters)


def is_pairs(machine, k, value):
    """Tell whether any value is pairs that show that the machine is told by pieces up to k."""
    check_reach(k)
    if not isinstance(value, list) or not all([is_pair(machine, pair) for pair in value]):
        return False
    known = {pair: True for pair in value}
    if (0, "") not in known or len(known) < len(value) or not is_told_alike(machine.lets, value):
        return False
    rows = machine.rows
    behind = {}
    for place, text in value:
        if text not in behind:
            if not is_shortest(text, k):
                return False
            behind[text] = [shortest(text + letter, k) for letter in machine.letters]
        if not all([pair in known for pair in zip(rows[place], behind[text])]):
            return False
    return True


def kinds_of(machine, k):
    """List the shortest texts for k of all texts that the machine lets by."""
    check_reach(k)
    lets = machine.lets
    kept = {text: True for place, text in led_pairs(machine, k) if place in lets}
    return least_first(list(kept))
