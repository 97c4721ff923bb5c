"""Steps by which a text stays alike up to k, and the shortest text to which they lead."""

from scatteredpieces.errors import BadStep
from scatteredpieces.texts import check_reach, check_text, check_texts_and_reach, is_from_zero, is_text
from scatteredpieces.ways import ahead, behind


def spare_places(text, k):
    """List the places that are spare for k."""
    check_text(text)
    check_reach(k)
    ways = list(zip(ahead(text), behind(text)))
    return [place for place, way in enumerate(ways) if sum(way) > k + 1]


def even_places(text, k):
    """List the places that are even for k with the next one."""
    ways = list(zip(ahead(text), behind(text)))
    return [
        place for place in range(len(text) - 1)
        if text[place] != text[place + 1] and ways[place] == ways[place + 1] and sum(ways[place]) == k + 1
    ]


def falling_places(text, places):
    """List those of the places at which the letter is behind that of the next place in the alphabet."""
    return [place for place in places if text[place] > text[place + 1]]


def without(text, place):
    """Give the text without the letter at the place."""
    return text[:place] + text[place + 1:]


def swapped(text, place):
    """Give the text in which the letters at the place and at the next one have changed places."""
    return text[:place] + text[place + 1] + text[place] + text[place + 2:]


def with_letter(text, k, place, letter):
    """Give the text with the letter put in at a place where it is spare, None for what can't be put in so."""
    if not is_text(letter) or len(letter) != 1:
        return None
    longer = text[:place] + letter + text[place:]
    return longer if place in spare_places(longer, k) else None


def text_behind(text, k, step):
    """Give the text behind the step, None for any value that is no step for k that the text can do."""
    if not isinstance(step, tuple) or len(step) < 2 or not is_from_zero(step[1]):
        return None
    word, place, *rest = step
    if word == "in" and len(rest) == 1:
        return with_letter(text, k, place, rest[0])
    if word == "out" and rest == [] and place in spare_places(text, k):
        return without(text, place)
    if word == "swap" and rest == [] and place in even_places(text, k):
        return swapped(text, place)
    return None


def stepped(text, k, step):
    """Give the text behind the step."""
    check_text(text)
    check_reach(k)
    changed = text_behind(text, k, step)
    if changed is None:
        raise BadStep(step)
    return changed


def led(text, k):
    """Give a list of steps that lead to the shortest text, and this text."""
    done = []
    spare = spare_places(text, k)
    while spare:
        done.append(("out", spare[0]))
        text = without(text, spare[0])
        spare = spare_places(text, k)
    # A swap leaves the ways of all places as they are, so the same places stay even.
    even = even_places(text, k)
    falling = falling_places(text, even)
    while falling:
        done.append(("swap", falling[0]))
        text = swapped(text, falling[0])
        falling = falling_places(text, even)
    return done, text


def is_shortest(text, k):
    """Tell whether a text is its own shortest text: there is no step that makes it less."""
    return spare_places(text, k) == [] and falling_places(text, even_places(text, k)) == []


def shortest(text, k):
    """Give the least text that is alike up to k to the text."""
    check_text(text)
    check_reach(k)
    return led(text, k)[1]


def steps(text, k):
    """List "out" and "swap" steps that lead from the text to its shortest text."""
    check_text(text)
    check_reach(k)
    return led(text, k)[0]


def are_steps(one, other, k, value):
    """Tell whether any value is steps that lead from the one text to the other one."""
    check_texts_and_reach(one, other, k)
    if not isinstance(value, list):
        return False
    text = one
    for step in value:
        text = text_behind(text, k, step)
        if text is None:
            return False
    return text == other
