"""What several tests need: values of any kind, texts, and plain listings to compare with."""

from itertools import combinations, product

ALPHABET = "abcdefghijklmnopqrstuvwxyz"
HUGE = 10 ** 60 - 1


def deep(levels):
    value = "a"
    for level in range(levels):
        value = [value] if level % 2 else (value, {"a": level})
    return value


# Values that are neither integers nor strings.
OTHER_KINDS = [
    True, False, None, (), ("a",), ("a", "b"), [], ["a"], [0], [[]], {}, {"a": "b"}, {0: 0}, {(0, 0): [0]},
    (1, 2), ["a", ("b", {"c": None})], deep(20),
]
# Strings that have a sign that is no letter from a to z; ` and { stand beside a and z.
NO_TEXTS = [
    " ", "A", "Z", "0", "1", "-1", "`", "{", "a`", "{z", "~", "\n", "\t", "a\n", "\na", "a b", "ab ", " ab", "aB",
    "Ab", "abcD", "ab1", "a-b", "a.b", "_", "True", "None", "a" * 199 + "A",
]
# All values that are no texts.
BAD_TEXTS = OTHER_KINDS + NO_TEXTS + [0, 1, -1, 97, HUGE, -HUGE]
# All values that are no letters.
BAD_LETTERS = BAD_TEXTS + [
    "", "aa", "ba", "abb", "aab", "aba", "abca", "acb", "zz", "zy", ALPHABET + "a", ALPHABET[::-1],
]
# All values that are no integers from 0 on.
BAD_NUMBERS = OTHER_KINDS + NO_TEXTS + ["", "a", -1, -2, -HUGE]

LONG_TEXTS = [
    "a" * 200, "ab" * 100, "abc" * 66 + "ab", (ALPHABET * 8)[:200], "a" * 100 + "b" * 100,
    (("ab" * 7 + "cba" * 3) * 9)[:200],
    "".join("abc"[(n * n + n // 7) % 3] for n in range(200)), "".join(ALPHABET[n * n * n % 23] for n in range(200)),
]


def short_texts():
    """List texts for which all pieces can be listed plainly."""
    others = ["zyxzyx", "banana", "mississippi", "abcdefgh", "hgfedcba", "aaaaaaaa", "abababab", "zazbzcz"]
    return all_texts("abc", 5) + others


def plain_pieces(text, length):
    """List the unlike pieces by striking out letters in all ways."""
    return sorted({"".join(letters) for letters in combinations(text, length)})


def all_texts(letters, longest):
    """List all texts over the letters of at most so many letters, the shorter ones first, then ascending."""
    return ["".join(word) for size in range(longest + 1) for word in product(letters, repeat=size)]


def piece_set(text, most):
    """Give the set of the unlike pieces of at most so many letters."""
    return frozenset("".join(letters) for size in range(most + 1) for letters in combinations(text, size))


def total_pieces(text):
    """Count all unlike pieces, of any length, by the rule of doubling."""
    total = 1
    before = {}
    for letter in text:
        before[letter], total = total, 2 * total - before.get(letter, 0)
    return total


def caught(error, function, *values, **named):
    """Give the error that the call raises; fail if it raises none of just this class."""
    try:
        function(*values, **named)
    except Exception as raised:
        assert raised.__class__ is error, (raised.__class__, function, values, named)
        return raised
    raise AssertionError(("nothing raised", error, function, values, named))


def nested(word, levels):
    """Give a saying of so many levels, whose words are all of one kind, or go down on one side."""
    saying = ("has", "ab")
    for level in range(levels - 1):
        if word == "not":
            saying = ("not", saying)
        elif word == "left":
            saying = ("and" if level % 2 else "or", saying, ("has", "b" * (level % 3)))
        elif word == "right":
            saying = ("or" if level % 2 else "and", ("not", ("has", "ba")) if level else ("has", "a"), saying)
        else:
            saying = (word, saying, saying) if level < 3 else (word, saying, ("has", "a" * (level % 3)))
    return saying


def some_sayings():
    """List sayings of many forms, drawn by plain arithmetic, that reach up to three letters."""
    pieces = ["", "a", "b", "ab", "ba", "aa", "bb", "aba", "bab", "abb", "c", "ac", "cb", "bca", "baa", "bbb"]
    sayings = [("has", piece) for piece in pieces]
    for number in range(150):
        one = sayings[(number * number * 7 + 3 * number) % len(sayings)]
        other = sayings[(number * 11 + 5) % len(sayings)]
        if depth(one) > 6 or depth(other) > 6:
            one, other = sayings[number % 16], sayings[(5 * number + 2) % 16]
        choices = [("not", one), ("and", one, other), ("or", other, one), ("and", ("not", one), other)]
        sayings.append(choices[number % 4])
    return sayings


def depth(saying):
    """Count the levels of a saying."""
    return 1 if saying[0] == "has" else 1 + max([depth(part) for part in saying[1:]])


def drawn(seed, many):
    """List whole numbers, drawn by plain arithmetic."""
    numbers = []
    for _ in range(many):
        seed = (seed * 6364136223846793005 + 1442695040888963407) % 2 ** 64
        numbers.append(seed >> 33)
    return numbers


def drawn_parts(letters, many, seed, form):
    """Give rows and lets of a machine, drawn by plain arithmetic.

    In the form "any" a row names any places; in the form "onward" just its own and those behind it.
    """
    numbers = drawn(seed, many * (len(letters) + 1))
    rows = []
    for place in range(many):
        row = numbers[place * len(letters):(place + 1) * len(letters)]
        rows.append(tuple([at % many if form == "any" else place + at % (many - place) for at in row]))
    return rows, [place for place in range(many) if numbers[-1 - place] % 3 == 0]


def small_parts():
    """List letters, rows and lets of many small machines."""
    found = [
        ("ab", [(1, 0), (1, 1)], [1]), ("ab", [(1, 1), (0, 0)], [0]), ("a", [(0,)], []), ("a", [(0,)], [0]),
        ("a", [(1,), (0,)], [1]), ("a", [(1,), (2,), (3,), (3,)], [3]), ("ab", [(0, 0)], [0]), ("z", [(1,), (1,)], [1]),
        ("ab", [(1, 2), (1, 1), (2, 2)], [1]), ("ab", [(1, 0), (1, 0)], [1]), ("ab", [(1, 0), (1, 2), (2, 2)], [2]),
        ("abc", [(1, 0, 0), (1, 2, 1), (2, 2, 2)], [0, 2]), ("ac", [(1, 0), (1, 2), (3, 2), (3, 3)], [1, 3]),
        ("ab", [(0, 0), (1, 0)], [1]), ("ab", [(1, 1), (2, 2), (1, 2)], [2]), ("bd", [(2, 1), (1, 1), (2, 1)], [2]),
    ]
    for seed in range(60):
        letters = ["a", "ab", "ab", "abc", "xyz"][seed % 5]
        found.append((letters, *drawn_parts(letters, 1 + seed % 6, seed, "any" if seed % 4 == 0 else "onward")))
    return found


def plain_place(letters, rows, text, place=0):
    """Give the place at which a machine ends, that goes through the text letter by letter."""
    for letter in text:
        place = dict(zip(letters, rows[place]))[letter]
    return place
