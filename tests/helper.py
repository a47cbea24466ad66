"""What several tests need: what they hand in, of the right kind and of any other, and the document's own words."""

import itertools

from firstword.errors import ThrowError

# Of any kind: what is no text, and texts with a sign that is no letter from a to z.
NO_TEXTS = (
    None, True, False, 0, 1, -3, 97, 1.5, 2j, b"", b"ab", bytearray(b"ab"),
    [], ["a"], ["a", "b"], (), ("a",), ("a", "b"), {}, {"a": 1}, set(), {"a"}, frozenset("ab"),
    range(3), iter("ab"), object(), str, len, lambda: "ab", ValueError("ab"),
)
OTHER_SIGNS = [chr(code) for code in range(32, 127) if not "a" <= chr(code) <= "z"] + ["\t", "\n", "\r"]


def texts_with_other_signs():
    texts = ["A", "ABC", "aBc", "Ab", "aB", "ab\n", "\nab", " ab", "ab ", "a b", "a1", "1a", "12", "a,b"]
    for sign in OTHER_SIGNS:
        texts.extend([sign, sign + "ab", "a" + sign + "b", "ab" + sign])
    return texts


def all_texts(letters, most):
    for length in range(most + 1):
        for signs in itertools.product(letters, repeat=length):
            yield "".join(signs)


def fibonacci_word(least):
    shorter, word = "a", "ab"
    while len(word) < least:
        shorter, word = word, word + shorter
    return word


LONG_WORDS = (
    "a" * 700,
    "ab" * 300,
    "ab" * 300 + "a",
    "abc" * 200 + "ab",
    "a" * 400 + "b",
    "b" + "a" * 400,
    "a" * 250 + "b" + "a" * 250,
    ("a" * 20 + "b") * 25 + "a" * 20,
    fibonacci_word(600),
    "abcdefghijklmnopqrstuvwxyz" * 20,
    "abcdefghijklmnopqrstuvwxyz" * 20 + "abc",
)

# What is no whole number, of any kind: True and False among it.
NO_WHOLES = (
    None, True, False, "", "a", "2", "10", 2.0, 10.0, 1.5, float("nan"), float("inf"), 2j, b"2",
    [], [2], (), (2,), {}, {2: 2}, set(), {2}, range(2, 3), iter([2]), object(), int, len, lambda: 2, ValueError(2),
)
NO_SIDES = (1, 0, -1, -2, -26, 27, 28, 100, 10**30) + NO_WHOLES
NO_MANY = (-1, -2, -300, 301, 302, 1000, 10**30) + NO_WHOLES

ALL_LETTERS = "abcdefghijklmnopqrstuvwxyz"

# Of one letter, of one letter repeated, of letters that overlap and that don't.
WORDS_BY_SIDES = {
    2: ["a", "b", "aa", "bb", "ab", "ba", "aba", "abb", "aab", "bbbbb", "ababab", "abaab", "aabbaa", "bababb"],
    3: ["a", "c", "cc", "abc", "cba", "abcab", "aac", "bcbcb", "abaca", "cabcabc", "aaaa"],
    6: ["f", "fff", "abcdef", "fedfe", "afafa", "ffaff", "bdbdc"],
    17: ["q", "qq", "qaq", "aqaqaq", "abcdefghijklmnopq"],
    25: ["y", "yyyy", "ayay", "xyxyx"],
    26: ["z", "zz", "az", "zaz", "zyzzyz", ALL_LETTERS, ALL_LETTERS + "abc", "azbzaz"],
}


def each_sides_and_word():
    for sides, words in WORDS_BY_SIDES.items():
        for word in words:
            yield sides, word


def short_words(letters, most):
    return [word for word in all_texts(letters, most) if word]


# Neither stands anywhere in the other.
def each_race(words):
    for one, other in itertools.permutations(words, 2):
        if one not in other and other not in one:
            yield one, other


# What is no word of the sides: a text of more letters, too.
def no_words(sides):
    beyond = [letter for letter in ALL_LETTERS[sides:]]
    mixed = ["ab" + letter for letter in beyond] + [letter + "ab" for letter in beyond]
    return ["", *NO_TEXTS, *texts_with_other_signs(), *beyond, *mixed]


SOME_RACES = [
    (2, "a", "b"), (2, "ab", "ba"), (2, "aa", "ba"), (2, "abb", "bba"), (2, "aab", "abb"), (2, "aabaab", "ba" * 4),
    (3, "a", "b"), (3, "abc", "cab"), (3, "cc", "ab"), (3, "abab", "bac"),
    (6, "fff", "abcdef"), (6, "afaf", "faff"), (26, "z", "a"), (26, "zaz", "aza"), (26, ALL_LETTERS, ALL_LETTERS[::-1]),
]


def states_as_told(one, other):
    return sorted({word[:count] for word in (one, other) for count in range(len(word) + 1)})


def lead_as_told(states, state, letter):
    return max((found for found in states if (state + letter).endswith(found)), key=len)


def wait_is_as_told(sides, word, table):
    states = [word[:count] for count in range(len(word) + 1)]
    if len(table) != len(states) or table[-1] != 0:
        return False
    for state, number in zip(states[:-1], table):
        leads = [len(lead_as_told(states, state, letter)) for letter in ALL_LETTERS[:sides]]
        if sides * number != sides + sum(table[lead] for lead in leads):
            return False
    return True


def race_is_as_told(sides, one, other, parts, whole):
    states = states_as_told(one, other)
    if whole < 1 or len(parts) != len(states):
        return False
    number = dict(zip(states, parts))
    if number[one] != whole or number[other] != 0:
        return False
    for state in states:
        if state not in (one, other):
            leads = [lead_as_told(states, state, letter) for letter in ALL_LETTERS[:sides]]
            if sides * number[state] != sum(number[lead] for lead in leads):
                return False
    return True


# This very refusal, and none under it.
def refused(test, error, ask, *handed):
    with test.assertRaises(ThrowError) as caught:
        ask(*handed)
    test.assertIs(type(caught.exception), error, (ask, handed))
