"""Words and throws: how a word overlaps with itself, and where it stands in throws."""

from firstword.checks import MOST_SIDES, check_throws, check_word


# The shorter beginnings are handed in, not found here, so that a walk over many throws
# finds them once, and so that they can be found by this same step.
def step(word, shorter, reached, letter):
    while reached > 0 and (reached == len(word) or word[reached] != letter):
        reached = shorter[reached]
    if word[reached] == letter:
        return reached + 1
    return 0


# For each count of the word's first letters: how many of its first letters, the most
# but fewer than these, stand at the end of these. One letter has none: the walk begins
# behind it, or each beginning would be found at its own end.
def shorter_beginnings(word):
    shorter = [0, 0]
    reached = 0
    for letter in word[1:]:
        reached = step(word, shorter, reached, letter)
        shorter.append(reached)
    return shorter


# For each count of throws, from 0 on: how many of the word's first letters, the most,
# stand at their end.
def reached_by_count(word, throws):
    shorter = shorter_beginnings(word)
    reached = 0
    reached_so_far = [reached]
    for letter in throws:
        reached = step(word, shorter, reached, letter)
        reached_so_far.append(reached)
    return reached_so_far


def overlaps(word):
    check_word(MOST_SIDES, word)
    shorter = shorter_beginnings(word)
    falling = []
    count = len(word)
    while count > 0:
        falling.append(count)
        count = shorter[count]
    return list(reversed(falling))


def stands(word, throws):
    check_word(MOST_SIDES, word)
    check_throws(MOST_SIDES, throws)
    return reached_by_count(word, throws)[len(throws)]


def ends(word, throws):
    check_word(MOST_SIDES, word)
    check_throws(MOST_SIDES, throws)
    return [count for count, reached in enumerate(reached_by_count(word, throws)) if reached == len(word)]
