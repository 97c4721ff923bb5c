"""The errors of the package: each one keeps its argument in an attribute of that name."""


class PieceError(ValueError):
    """What all errors of the package have in common."""


class BadText(PieceError):
    """A value that is no text stands where a text is asked for."""

    def __init__(self, value):
        self.value = value


class BadLetters(PieceError):
    """A value that is no letters stands where letters are asked for."""

    def __init__(self, value):
        self.value = value


class BadReach(PieceError):
    """A value that is no integer from 0 on stands where a k or a reach is asked for."""

    def __init__(self, value):
        self.value = value


class BadLength(PieceError):
    """A value that is no integer from 0 on stands where a length is asked for."""

    def __init__(self, value):
        self.value = value


class BadNumber(PieceError):
    """A value is no number of a piece in the list that is meant."""

    def __init__(self, value):
        self.value = value


class NoPiece(PieceError):
    """A text is no piece of the other one."""

    def __init__(self, value):
        self.value = value


class NoPlace(PieceError):
    """A value is no place of the text."""

    def __init__(self, value):
        self.value = value


class BadStep(PieceError):
    """A value is no step that the text can do."""

    def __init__(self, value):
        self.value = value


class OtherReach(PieceError):
    """Two kinds are not for the same k."""


class BadTimes(PieceError):
    """A value that is no integer from 0 on stands where a number of times is asked for."""

    def __init__(self, value):
        self.value = value


class OtherLetters(PieceError):
    """A text or a machine has other letters than the machine that it meets."""

    def __init__(self, value):
        self.value = value


class BadSaying(PieceError):
    """A value that is no saying stands where a saying is asked for."""

    def __init__(self, value):
        self.value = value


class BadRows(PieceError):
    """A value is no list of one or more rows of places."""

    def __init__(self, value):
        self.value = value


class BadLets(PieceError):
    """A value is no list of unlike places at which a machine lets by."""

    def __init__(self, value):
        self.value = value


class BadLetter(PieceError):
    """A value is no letter from a to z."""

    def __init__(self, value):
        self.value = value


class Nothing(PieceError):
    """There is no event to take back."""


class BadSigns(PieceError):
    """A value is no text of a saying."""

    def __init__(self, value):
        self.value = value


class BadLine(PieceError):
    """With the line of this number, from 1, the lines begin no text of a machine."""

    def __init__(self, line):
        self.line = line
