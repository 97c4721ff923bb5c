"""How many letters lead to a place of a text, from its beginning and from its end."""

from scatteredpieces.texts import check_place, check_text, is_text, reached_places


def ahead(text):
    """List the ways ahead of the places."""
    check_text(text)
    ways = []
    last = {}
    for place, letter in enumerate(text):
        # What leads here comes from the last place of the same letter, or from one behind it: from
        # further ahead the piece would end at that letter, not at this one.
        nearer = ways[last[letter]:] if letter in last else [0]
        ways.append(min(nearer) + 1)
        last[letter] = place
    return ways


def behind(text):
    """List the ways behind of the places."""
    check_text(text)
    return ahead(text[::-1])[::-1]


def lead(text, place):
    """Give a piece with as many letters as the way ahead says, whose first places end at the place."""
    ways = ahead(text)
    piece = text[place]
    while ways[place] > 1:
        start = text.rfind(text[place], 0, place)
        place = ways.index(ways[place] - 1, start)
        piece = text[place] + piece
    return piece


def is_lead(text, place, piece):
    """Tell whether the piece has as many letters as the way ahead says, and its first places end at the place."""
    places = reached_places(text, piece)
    return len(piece) == len(places) == ahead(text)[place] and places[-1] == place


def leads(text, place):
    """Give leads of the place."""
    check_text(text)
    check_place(text, place)
    return lead(text, place), lead(text[::-1], len(text) - 1 - place)[::-1]


def are_leads(text, place, value):
    """Tell whether any value is leads of the place."""
    check_text(text)
    check_place(text, place)
    if not isinstance(value, tuple) or len(value) != 2 or not all([is_text(piece) for piece in value]):
        return False
    head, tail = value
    return is_lead(text, place, head) and is_lead(text[::-1], len(text) - 1 - place, tail[::-1])
