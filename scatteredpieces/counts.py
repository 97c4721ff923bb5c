"""How many unlike pieces a text has, and where a piece stands in the ascending list of them."""

from scatteredpieces.errors import BadNumber
from scatteredpieces.texts import check_length, check_text, first_places, followers, is_from_zero


def counts_onward(text, rows):
    """Map each place, and the end, to the numbers of unlike pieces of 0, 1, .. letters from there on.

    Each list of numbers goes up to the length of the whole text; rows are the followers of the text.
    """
    none = [0] * (len(text) + 1)
    numbers = {len(text): [1] + [0] * len(text)}
    for place in reversed(range(len(text))):
        shorter = numbers[place + 1]
        # A piece that can begin with the same letter further on is not counted a second time.
        same = rows[place + 1].get(text[place])
        twice = none if same is None else numbers[same]
        numbers[place] = [1] + [
            shorter[many] + shorter[many - 1] - twice[many - 1] for many in range(1, len(text) + 1)
        ]
    return numbers


def counts(text):
    """List the numbers of unlike pieces of 0, 1, .. letters."""
    check_text(text)
    return counts_onward(text, followers(text))[0]


def nth_piece(text, length, number):
    """Give the piece with this number in the ascending list of pieces of so many letters."""
    check_text(text)
    check_length(length)
    if not is_from_zero(number) or length > len(text):
        raise BadNumber(number)
    rows = followers(text)
    numbers = counts_onward(text, rows)
    if number >= numbers[0][length]:
        raise BadNumber(number)
    piece = ""
    place = 0
    left = number
    for lacking in reversed(range(length)):
        for letter, behind in sorted(rows[place].items()):
            many = numbers[behind][lacking]
            if left < many:
                piece += letter
                place = behind
                break
            left -= many
    return piece


def number_of(text, piece):
    """Give the number of the piece in the ascending list of pieces of as many letters."""
    places = first_places(text, piece)
    rows = followers(text)
    numbers = counts_onward(text, rows)
    number = 0
    start = 0
    for at, letter in enumerate(piece):
        lacking = len(piece) - at - 1
        number += sum([numbers[rows[start][other]][lacking] for other in rows[start] if other < letter])
        start = places[at] + 1
    return number
