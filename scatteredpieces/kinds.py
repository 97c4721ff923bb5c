"""Kinds of texts that are alike up to k, told by their shortest texts, and closed lists of them."""

from scatteredpieces.errors import BadTimes, OtherReach
from scatteredpieces.likeness import alike
from scatteredpieces.shortest import is_shortest, shortest
from scatteredpieces.texts import check_letters, check_reach, followers, is_from_zero, is_over, least_first


def repeated(text, k, times):
    """Give the shortest text for k of the text so many times."""
    whole = ""
    done = 0
    while done < times:
        longer = shortest(whole + text, k)
        # If once more changes nothing, then no further time does.
        if longer == whole:
            return whole
        whole = longer
        done += 1
    return whole


def is_within(one, other, k):
    """Tell whether all pieces of at most k letters of the one text are pieces of the other one."""
    rows = followers(one)
    opposites = followers(other)
    seen = {(0, 0): True}
    layer = [(0, 0)]
    length = 0
    while layer and length < k:
        farther = []
        for place, opposite in layer:
            for letter in rows[place]:
                if letter not in opposites[opposite]:
                    return False
                target = rows[place][letter], opposites[opposite][letter]
                if target not in seen:
                    seen[target] = True
                    farther.append(target)
        layer = farther
        length += 1
    return True


class Kind:
    """The kind up to k of a text: all texts that are alike up to k to it."""

    def __init__(self, text, k):
        self.least = shortest(text, k)
        self.k = k

    def __eq__(self, other):
        if not isinstance(other, Kind):
            return False
        return self.k == other.k and self.least == other.least

    def __add__(self, other):
        """Give the kind of this one's texts with the other one's behind them."""
        if self.k != other.k:
            raise OtherReach()
        return Kind(self.least + other.least, self.k)

    def __mul__(self, other):
        """Give the kind of this one's texts, repeated so many times."""
        if not is_from_zero(other):
            raise BadTimes(other)
        return Kind(repeated(self.least, self.k, other), self.k)

    def within(self, other):
        """Tell whether all pieces of at most k letters of this one's texts are pieces of the other one's."""
        if self.k != other.k:
            raise OtherReach()
        return is_within(self.least, other.least, self.k)

    def idle_behind(self, letters):
        """Give those of the letters that add nothing behind this kind."""
        check_letters(letters)
        return "".join([letter for letter in letters if alike(self.least, self.least + letter, self.k)])

    def idle_ahead(self, letters):
        """Give those of the letters that add nothing ahead of this kind."""
        check_letters(letters)
        return "".join([letter for letter in letters if alike(self.least, letter + self.least, self.k)])


def ground(letters, k):
    """List the shortest texts of all kinds up to k of texts over the letters."""
    check_letters(letters)
    check_reach(k)
    found = [""]
    seen = {"": True}
    at = 0
    while at < len(found):
        for letter in letters:
            text = shortest(found[at] + letter, k)
            if text not in seen:
                seen[text] = True
                found.append(text)
        at += 1
    return least_first(found)


def is_ground(letters, k, value):
    """Tell whether any value is a ground: a closed list of the kinds."""
    check_letters(letters)
    check_reach(k)
    if not isinstance(value, list) or not all([is_over(text, letters) for text in value]):
        return False
    known = {text: True for text in value}
    if "" not in known or len(known) < len(value):
        return False
    for text in value:
        if not is_shortest(text, k):
            return False
        for letter in letters:
            if shortest(text + letter, k) not in known:
                return False
    return True
