"""Up to how many letters a text holds all texts over some letters, and which ones it lacks."""

from scatteredpieces.texts import check_letters, check_text, followers


def rounds(text, letters):
    """List the places at which all of the letters have stood, from the beginning or from behind the round ahead."""
    check_text(text)
    check_letters(letters)
    places = []
    lacking = letters
    for place, letter in enumerate(text):
        lacking = lacking.replace(letter, "")
        if lacking == "":
            places.append(place)
            lacking = letters
    return places


def fullness(text, letters):
    """Give the greatest number of letters up to which the text is full over the letters."""
    return len(rounds(text, letters))


def shortest_missing(text, letters):
    """Give the least text over the letters that is missing, and how many missing ones are as short."""
    check_text(text)
    check_letters(letters)
    # What is missing from a place on: a letter, and what is missing from behind the first such letter.
    found = {}
    for place, row in reversed(list(enumerate(followers(text)))):
        choices = []
        for letter in letters:
            least, many = found[row[letter]] if letter in row else ("", 1)
            choices.append((letter + least, many))
        length = min([len(least) for least, _ in choices])
        short = [choice for choice in choices if len(choice[0]) == length]
        found[place] = short[0][0], sum([many for _, many in short])
    return found[0]


def missing(text, letters):
    """Give the least text over the letters that is no piece of the text."""
    return shortest_missing(text, letters)[0]


def missing_count(text, letters):
    """Count the shortest texts over the letters that are no pieces of the text."""
    return shortest_missing(text, letters)[1]
