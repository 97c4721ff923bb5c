"""Texts, strings of letters from a to z, and the pieces that they hold."""

from scatteredpieces.errors import BadLength, BadLetters, BadReach, BadText, NoPiece, NoPlace

ALPHABET = "abcdefghijklmnopqrstuvwxyz"


def is_text(value):
    """Tell whether any value is a text."""
    return isinstance(value, str) and all([sign in ALPHABET for sign in value])


def is_letters(value):
    """Tell whether any value is letters: one or more unlike ones, ascending."""
    return is_text(value) and value != "" and value == "".join(sorted(set(value)))


def is_over(value, letters):
    """Tell whether any value is a text over the letters."""
    return isinstance(value, str) and all([sign in letters for sign in value])


def is_from_zero(value):
    """Tell whether any value is an integer from 0 on; a bool is no integer."""
    return isinstance(value, int) and not isinstance(value, bool) and value >= 0


def check_text(value):
    """Raise BadText for any value that is no text."""
    if not is_text(value):
        raise BadText(value)


def check_letters(value):
    """Raise BadLetters for any value that is no letters."""
    if not is_letters(value):
        raise BadLetters(value)


def check_length(value):
    """Raise BadLength for any value that is no integer from 0 on."""
    if not is_from_zero(value):
        raise BadLength(value)


def check_reach(value):
    """Raise BadReach for any value that is no integer from 0 on."""
    if not is_from_zero(value):
        raise BadReach(value)


def check_texts_and_reach(one, other, k):
    """Raise BadText or BadReach for the first one that is no text, or no integer from 0 on."""
    check_text(one)
    check_text(other)
    check_reach(k)


def check_place(text, value):
    """Raise NoPlace for any value that is no place of the text."""
    if not is_from_zero(value) or value >= len(text):
        raise NoPlace(value)


def followers(text):
    """List, for each place and for the end, the place behind the first of each letter from there on."""
    rows = [{}]
    for place in reversed(range(len(text))):
        row = dict(rows[-1])
        row[text[place]] = place + 1
        rows.append(row)
    return rows[::-1]


def reached_places(text, piece):
    """List the first places of as many letters of the piece, from its beginning, as the text holds."""
    places = []
    place = -1
    for letter in piece:
        place = text.find(letter, place + 1)
        if place < 0:
            break
        places.append(place)
    return places


def is_piece(text, piece):
    """Tell whether a text is a piece of the other one."""
    return len(reached_places(text, piece)) == len(piece)


def holds(text, piece):
    """Tell whether the piece is a piece of the text."""
    check_text(text)
    check_text(piece)
    return is_piece(text, piece)


def first_places(text, piece):
    """List the first places of the piece in the text."""
    if not holds(text, piece):
        raise NoPiece(piece)
    return reached_places(text, piece)


def last_places(text, piece):
    """List the last places of the piece in the text."""
    if not holds(text, piece):
        raise NoPiece(piece)
    backward = reached_places(text[::-1], piece[::-1])
    return [len(text) - 1 - place for place in reversed(backward)]


def least_first(texts):
    """List the texts, the shorter ones first, those of one length ascending."""
    return sorted(texts, key=lambda text: (len(text), text))


def stretches(choices, start, many, limit):
    """List the texts of so many letters whose first places, from start on, stand ahead of the limit.

    They are ascending, each one in a tuple with the place behind its last letter.
    """
    if many == 0:
        return [("", start)]
    if many == 1:
        return [(letter, place) for letter, place in choices[start] if place <= limit]
    # Halves are put together, and a first half leaves room for a second one: so no part is listed
    # in vain, and the work goes with the length of the list that is returned.
    half = many // 2
    second = {}
    found = []
    for head, middle in stretches(choices, start, half, limit - (many - half)):
        if middle not in second:
            second[middle] = stretches(choices, middle, many - half, limit)
        found.extend([(head + tail, end) for tail, end in second[middle]])
    return found


def pieces(text, length):
    """List the unlike pieces of so many letters, ascending."""
    check_text(text)
    check_length(length)
    if length > len(text):
        return []
    choices = [sorted(row.items()) for row in followers(text)]
    return [piece for piece, _ in stretches(choices, 0, length, len(text))]
