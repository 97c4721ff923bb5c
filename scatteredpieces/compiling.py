"""Machines made of sayings, machines with the fewest places, and what parts two machines."""

from scatteredpieces.errors import OtherLetters
from scatteredpieces.machines import Machine, fewest_parts, is_place, leading_words, place_behind, splits
from scatteredpieces.sayings import check_saying, gone_on, is_kept, least_words, pieces_over
from scatteredpieces.texts import check_letters, is_over, least_first


def machine_of(saying, letters):
    """Give a machine over the letters that lets by just the texts that keep the saying."""
    check_saying(saying)
    check_letters(letters)
    pieces = pieces_over([saying], letters)
    words = least_words(pieces, letters)
    places = {reached: place for place, reached in enumerate(words)}
    rows = [tuple([places[gone_on(pieces, reached, letter)] for letter in letters]) for reached in words]
    return Machine(letters, rows, [places[reached] for reached in words if is_kept(words[reached], saying)])


def opposite(machine):
    """Give the machine that lets by at just the other places."""
    rows = machine.rows
    lets = {place: True for place in machine.lets}
    return Machine(machine.letters, rows, [place for place in range(len(rows)) if place not in lets])


def fewest(machine):
    """Give the one machine that does the same with the fewest places, in the sequence of the least texts to them."""
    rows, lets = fewest_parts(machine)
    return Machine(machine.letters, rows, lets)


def few_paper(machine):
    """Give a paper that the machine has the fewest places, None if there is none."""
    rows = machine.rows
    words = leading_words(machine.letters, rows)
    found = splits(machine.letters, rows, machine.lets)
    if len(words) < len(rows) or len(found) < len(rows) - 1:
        return None
    partings = {}
    for word, yes, no in found:
        for one in yes:
            for other in no:
                partings[min(one, other), max(one, other)] = word
    return [words[place] for place in range(len(rows))], partings


def are_leading(machine, value):
    """Tell whether any value is a list of texts that lead to the places, each one to its own."""
    letters = machine.letters
    rows = machine.rows
    if not isinstance(value, list) or len(value) != len(rows) or not all([is_over(word, letters) for word in value]):
        return False
    return all([place_behind(letters, rows, word) == place for place, word in enumerate(value)])


def is_rising(many, value):
    """Tell whether any value is a pair of two of so many places, the lesser one first."""
    if not isinstance(value, tuple) or len(value) != 2 or not all([is_place(place, many) for place in value]):
        return False
    return value[0] < value[1]


def all_parted(machine, groups):
    """Tell whether each text in a dict, from texts to pairs of places, is let by from just one of each of its pairs."""
    letters = machine.letters
    rows = machine.rows
    lets = {place: True for place in machine.lets}
    told = {"": [place in lets for place in range(len(rows))]}
    for word in least_first(list(groups)):
        pairs = groups[word]
        # Texts often end with another one of them: then just what stands ahead of that is to be gone through.
        end = word
        while end not in told:
            end = end[1:]
        let = told[end]
        start = word[:len(word) - len(end)]
        if 2 * len(pairs) * len(start) < len(rows):
            pairs = [[place_behind(letters, rows, start, place) for place in pair] for pair in pairs]
        else:
            # For many pairs it is less to tell what is let by from all places at once.
            for letter in reversed(start):
                at = letters.index(letter)
                let = [let[row[at]] for row in rows]
            told[word] = let
        if not all([let[one] != let[other] for one, other in pairs]):
            return False
    return True


def are_partings(machine, value):
    """Tell whether any value is a dict with a text for each pair of places, let by from just one of both."""
    many = len(machine.rows)
    if not isinstance(value, dict) or len(value) != many * (many - 1) // 2:
        return False
    if not all([is_rising(many, pair) and isinstance(value[pair], str) for pair in value]):
        return False
    groups = {}
    for pair, word in value.items():
        groups.setdefault(word, []).append(pair)
    return all([is_over(word, machine.letters) for word in groups]) and all_parted(machine, groups)


def is_few_paper(machine, value):
    """Tell whether any value is a paper that the machine has the fewest places."""
    if not isinstance(value, tuple) or len(value) != 2:
        return False
    return are_leading(machine, value[0]) and are_partings(machine, value[1])


def check_same_letters(one, other):
    """Raise OtherLetters if the other machine has not the letters of the one."""
    if one.letters != other.letters:
        raise OtherLetters(other.letters)


def head_of(heads, place):
    """Give the place that stands for all those that are put together with a place."""
    while heads[place] != place:
        place = heads[place]
    return place


def parted(one, other):
    """Give the least text that just one of both machines lets by, None if they do the same."""
    check_same_letters(one, other)
    # The places of the other machine are numbered behind those of the one.
    letters = one.letters
    many = len(one.rows)
    rows = one.rows + [tuple([many + target for target in row]) for row in other.rows]
    lets = {place: True for place in one.lets + [many + place for place in other.lets]}
    heads = list(range(len(rows)))
    heads[many] = 0
    found = [(0, many, "")]
    at = 0
    while at < len(found):
        place, opposed, word = found[at]
        if (place in lets) != (opposed in lets):
            return word
        for letter, target, against in zip(letters, rows[place], rows[opposed]):
            # Places that are put together already, by lesser texts, show nothing that these do not show.
            if head_of(heads, target) != head_of(heads, against):
                heads[head_of(heads, against)] = head_of(heads, target)
                found.append((target, against, word + letter))
        at += 1
    return None


def shared(one, other):
    """List shared places of the machines, None if there are none."""
    if parted(one, other) is not None:
        return None
    rows = one.rows
    others = other.rows
    found = [(0, 0)]
    seen = {(0, 0): True}
    at = 0
    while at < len(found):
        place, opposed = found[at]
        for pair in zip(rows[place], others[opposed]):
            if pair not in seen:
                seen[pair] = True
                found.append(pair)
        at += 1
    return found


def is_pair_of(many, others, value):
    """Tell whether any value is a pair of one of so many places, and one of so many others."""
    return isinstance(value, tuple) and len(value) == 2 and is_place(value[0], many) and is_place(value[1], others)


def is_shared(one, other, value):
    """Tell whether any value is shared places of the machines."""
    check_same_letters(one, other)
    rows = one.rows
    others = other.rows
    if not isinstance(value, list) or not all([is_pair_of(len(rows), len(others), pair) for pair in value]):
        return False
    known = {pair: True for pair in value}
    if (0, 0) not in known or len(known) < len(value):
        return False
    lets = {place: True for place in one.lets}
    other_lets = {place: True for place in other.lets}
    for place, opposed in value:
        if (place in lets) != (opposed in other_lets):
            return False
        if not all([pair in known for pair in zip(rows[place], others[opposed])]):
            return False
    return True
