"""Rolls: texts that grow and shrink letter by letter, with what happened to them."""

from scatteredpieces.errors import BadLetter, Nothing
from scatteredpieces.kinds import Kind
from scatteredpieces.shortest import shortest
from scatteredpieces.texts import check_place, check_reach, is_text


def check_letter(value):
    """Raise BadLetter for any value that is no letter from a to z."""
    if not is_text(value) or len(value) != 1:
        raise BadLetter(value)


class Roll:
    """A text, the empty one at first, and the events that made it what it is."""

    def __init__(self):
        self._events = []
        # The text ahead of each event, and the one that stands now.
        self._texts = [""]

    @property
    def text(self):
        """Give the text that stands now."""
        return self._texts[-1]

    @property
    def history(self):
        """List the events."""
        return list(self._events)

    def put_behind(self, letter):
        """Put the letter behind the text."""
        check_letter(letter)
        self._texts.append(self.text + letter)
        self._events.append(("behind", letter))

    def put_ahead(self, letter):
        """Put the letter ahead of the text."""
        check_letter(letter)
        self._texts.append(letter + self.text)
        self._events.append(("ahead", letter))

    def strike(self, place):
        """Let the letter at the place go."""
        check_place(self.text, place)
        self._texts.append(self.text[:place] + self.text[place + 1:])
        self._events.append(("strike", place))

    def undo(self):
        """Take the last event back and give it."""
        if not self._events:
            raise Nothing()
        self._texts.pop()
        return self._events.pop()

    def fork(self):
        """Give a new roll that stands as this one does, and goes on by itself."""
        other = Roll()
        other._events = list(self._events)
        other._texts = list(self._texts)
        return other

    def kind(self, k):
        """Give the kind up to k of the text."""
        return Kind(self.text, k)

    def says_more(self, k):
        """List the events by which the kind up to k of the text changed."""
        check_reach(k)
        least = [shortest(text, k) for text in self._texts]
        return [event for at, event in enumerate(self._events) if least[at] != least[at + 1]]


def replayed(events):
    """Give the roll behind the events, done one after the other."""
    roll = Roll()
    for word, what in events:
        if word == "behind":
            roll.put_behind(what)
        elif word == "ahead":
            roll.put_ahead(what)
        else:
            roll.strike(what)
    return roll
