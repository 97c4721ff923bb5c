"""Up to which number of letters two texts hold the same pieces, and what shows it."""

from scatteredpieces.texts import check_text, check_texts_and_reach, followers, is_from_zero


def least_parted(row, opposite):
    """Give the least letter that just one of two rows of followers has, None if there is none."""
    return min([letter for letter in [*row, *opposite] if (letter in row) != (letter in opposite)], default=None)


def compared(one, other, most):
    """Compare the pieces of at most so many letters.

    Give a dict, with the least piece that leads to each pair of places in both texts, and the least text
    that parts them, None if no text of at most so many letters does.
    """
    rows = followers(one)
    opposites = followers(other)
    words = {(0, 0): ""}
    layer = [(0, 0)]
    length = 0
    # The pairs of a layer stand in the sequence of the least pieces that lead to them: so the first
    # pair from which a letter goes on in just one text shows the least text that parts them.
    while layer and length < most:
        farther = []
        for pair in layer:
            row = rows[pair[0]]
            opposite = opposites[pair[1]]
            parted = least_parted(row, opposite)
            if parted is not None:
                return words, words[pair] + parted
            for letter in sorted(row):
                target = row[letter], opposite[letter]
                if target not in words:
                    words[target] = words[pair] + letter
                    farther.append(target)
        layer = farther
        length += 1
    return words, None


def parting(one, other):
    """Give the least text that is a piece of just one of both, None if they are the same text."""
    check_text(one)
    check_text(other)
    # The longer one of unlike texts is itself no piece of the other one.
    return compared(one, other, max(len(one), len(other)))[1]


def alike(one, other, k):
    """Tell whether the texts have the same pieces of at most k letters."""
    check_texts_and_reach(one, other, k)
    return compared(one, other, k)[1] is None


def likeness(one, other):
    """Give the greatest k up to which the texts are alike, None if they are the same text."""
    parted = parting(one, other)
    return None if parted is None else len(parted) - 1


def table(one, other, k):
    """Give a table that shows that the texts are alike up to k, None if they are not."""
    check_texts_and_reach(one, other, k)
    words, parted = compared(one, other, k)
    if parted is not None:
        return None
    return {pair: len(words[pair]) for pair in words}


def is_pair(one, other, value):
    """Tell whether any value is a pair of places, or ends, of the one text and of the other one."""
    if not isinstance(value, tuple) or len(value) != 2 or not all([is_from_zero(place) for place in value]):
        return False
    return value[0] <= len(one) and value[1] <= len(other)


def goes_on(row, opposite, number, value):
    """Tell whether the table has all pairs behind one with this number and these rows, with numbers that suit it."""
    if least_parted(row, opposite) is not None:
        return False
    targets = [(row[letter], opposite[letter]) for letter in row]
    return all([target in value and value[target] <= number + 1 for target in targets])


def is_table(one, other, k, value):
    """Tell whether any value is a table for the texts and k."""
    check_texts_and_reach(one, other, k)
    if not isinstance(value, dict):
        return False
    if not all([is_pair(one, other, pair) and is_from_zero(value[pair]) for pair in value]):
        return False
    if value.get((0, 0)) != 0:
        return False
    rows = followers(one)
    opposites = followers(other)
    for (place, opposite), number in value.items():
        if number < k and not goes_on(rows[place], opposites[opposite], number, value):
            return False
    return True
