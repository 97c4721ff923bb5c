"""Texts that write sayings and machines, and how they are read back."""

from scatteredpieces.errors import BadLine, BadSigns
from scatteredpieces.machines import Machine
from scatteredpieces.sayings import LEVELS, check_saying
from scatteredpieces.texts import is_letters, is_text

FIGURES = "0123456789"
HEAD = "letters "


def format_saying(saying):
    """Give the text that writes the saying."""
    check_saying(saying)
    word, *parts = saying
    if word == "has":
        return "has" if parts[0] == "" else "has " + parts[0]
    inner = ["(" + format_saying(part) + ")" for part in parts]
    if word == "not":
        return "not " + inner[0]
    return inner[0] + " " + word + " " + inner[1]


def end_of_letters(signs, start):
    """Give the place behind the letters that stand in the signs from the start on."""
    end = start
    while end < len(signs) and is_text(signs[end]):
        end += 1
    return end


def saying_at(signs, start, levels):
    """Read a saying of at most so many levels, from the start on.

    Give it with the place behind its last sign, None for signs that begin with none.
    """
    if levels == 0:
        return None
    if signs.startswith("has", start):
        end = end_of_letters(signs, start + 4)
        if signs.startswith(" ", start + 3) and end > start + 4:
            return ("has", signs[start + 4:end]), end
        return ("has", ""), start + 3
    if signs.startswith("not ", start):
        part = part_at(signs, start + 4, levels)
        return None if part is None else (("not", part[0]), part[1])
    part = part_at(signs, start, levels)
    if part is None:
        return None
    one, middle = part
    for word in ("and", "or"):
        if signs.startswith(" " + word + " ", middle):
            part = part_at(signs, middle + len(word) + 2, levels)
            return None if part is None else ((word, one, part[0]), part[1])
    return None


def part_at(signs, start, levels):
    """Read a saying in parentheses, a part of one of so many levels, from the start on, as saying_at does."""
    if not signs.startswith("(", start):
        return None
    part = saying_at(signs, start + 1, levels - 1)
    if part is None or not signs.startswith(")", part[1]):
        return None
    return part[0], part[1] + 1


def read_saying(signs):
    """Give the saying that the signs write."""
    read = saying_at(signs, 0, LEVELS) if isinstance(signs, str) else None
    if read is None or read[1] != len(signs):
        raise BadSigns(signs)
    return read[0]


def format_machine(machine):
    """Give the text that writes the machine."""
    lets = {place: True for place in machine.lets}
    lines = [HEAD + machine.letters]
    for place, row in enumerate(machine.rows):
        line = " ".join([str(target) for target in row])
        lines.append(line + " lets" if place in lets else line)
    return "\n".join(lines)


def is_number(word):
    """Tell whether a word is a number in figures, without a 0 ahead of others."""
    if word == "" or not all([sign in FIGURES for sign in word]):
        return False
    return word == "0" or word[0] != "0"


def is_below(word, many):
    """Tell whether the number that a word writes is less than another one."""
    # So a number of very many figures is not worked out.
    return len(word) <= len(str(many)) and int(word) < many


def number_words(line):
    """List the words of a line that stand where a row has its numbers."""
    return line.removesuffix(" lets").split(" ")


def check_lines(lines):
    """Raise BadLine for the first line with which the lines begin no text of a machine, or for one that is lacking."""
    letters = lines[0].removeprefix(HEAD)
    if not lines[0].startswith(HEAD) or not is_letters(letters):
        raise BadLine(1)
    many = len(lines) - 1
    # There is at least one row, and one for each place that a row names.
    lacking = many == 0
    for at in range(1, len(lines)):
        words = number_words(lines[at])
        if len(words) != len(letters) or not all([is_number(word) for word in words]):
            raise BadLine(at + 1)
        lacking = lacking or not all([is_below(word, many) for word in words])
    if lacking:
        raise BadLine(len(lines) + 1)


def read_machine(signs):
    """Give the machine that the signs write."""
    if not isinstance(signs, str):
        raise BadLine(1)
    lines = signs.split("\n")
    check_lines(lines)
    rows = [tuple([int(word) for word in number_words(line)]) for line in lines[1:]]
    lets = [place for place, line in enumerate(lines[1:]) if line.endswith(" lets")]
    return Machine(lines[0].removeprefix(HEAD), rows, lets)
