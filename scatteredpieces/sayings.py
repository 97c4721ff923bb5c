"""Sayings about the pieces of a text, and the least texts that keep them."""

from scatteredpieces.errors import BadSaying
from scatteredpieces.texts import check_letters, check_text, is_over, is_piece, is_text

LEVELS = 10


def is_saying_within(value, levels):
    """Tell whether any value is a saying of at most so many levels."""
    if levels == 0 or not isinstance(value, tuple) or value == ():
        return False
    word, *parts = value
    if word == "has":
        return len(parts) == 1 and is_text(parts[0])
    if word == "not":
        wanted = 1
    elif word in ("and", "or"):
        wanted = 2
    else:
        return False
    return len(parts) == wanted and all([is_saying_within(part, levels - 1) for part in parts])


def is_saying(value):
    """Tell whether any value is a saying."""
    return is_saying_within(value, LEVELS)


def check_saying(value):
    """Raise BadSaying for any value that is no saying."""
    if not is_saying(value):
        raise BadSaying(value)


def pieces_of(saying):
    """List the unlike pieces that the saying names."""
    word, *parts = saying
    if word == "has":
        return parts
    return sorted({piece for part in parts for piece in pieces_of(part)})


def reach(saying):
    """Give the greatest length of the pieces that the saying names."""
    check_saying(saying)
    return max([len(piece) for piece in pieces_of(saying)])


def is_kept(text, saying):
    """Tell whether the text keeps the saying."""
    word, *parts = saying
    if word == "has":
        return is_piece(text, parts[0])
    if word == "not":
        return not is_kept(text, parts[0])
    if word == "and":
        return is_kept(text, parts[0]) and is_kept(text, parts[1])
    return is_kept(text, parts[0]) or is_kept(text, parts[1])


def keeps(text, saying):
    """Tell whether the text keeps the saying."""
    check_text(text)
    check_saying(saying)
    return is_kept(text, saying)


def gone_on(pieces, reached, letter):
    """Give how many letters of each piece a text has reached with the letter behind it."""
    return tuple([
        many + 1 if many < len(piece) and piece[many] == letter else many for piece, many in zip(pieces, reached)
    ])


def least_words(pieces, letters):
    """Map all that texts over the letters can reach of the pieces to the least texts that reach it.

    These texts stand in their order, the shorter ones first, those of one length ascending.
    """
    start = tuple([0 for _ in pieces])
    words = {start: ""}
    found = [start]
    at = 0
    while at < len(found):
        for letter in letters:
            reached = gone_on(pieces, found[at], letter)
            if reached not in words:
                words[reached] = words[found[at]] + letter
                found.append(reached)
        at += 1
    return words


def pieces_over(sayings, letters):
    """List the unlike pieces over the letters that the sayings name."""
    return sorted({piece for saying in sayings for piece in pieces_of(saying) if is_over(piece, letters)})


def settling_words(sayings, letters):
    """List texts over the letters, in their order, that settle the sayings: any text is like one of them."""
    return list(least_words(pieces_over(sayings, letters), letters).values())


def least_text(saying, letters):
    """Give the least text over the letters that keeps the saying, None if there is none."""
    check_saying(saying)
    check_letters(letters)
    for word in settling_words([saying], letters):
        if is_kept(word, saying):
            return word
    return None


def apart(one, other, letters):
    """Give the least text over the letters that keeps just one of both sayings, None if there is none."""
    check_saying(one)
    check_saying(other)
    check_letters(letters)
    for word in settling_words([one, other], letters):
        if is_kept(word, one) != is_kept(word, other):
            return word
    return None
