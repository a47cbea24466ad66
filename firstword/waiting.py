"""How long a word is waited for, and which of two words comes first."""

from firstword.answers import Race, Wait, beginnings
from firstword.checks import check_sides, check_word
from firstword.errors import BadWord, Within
from firstword.words import reached_by_count, shorter_beginnings

COIN_SIDES = 2
LEAST_LETTERS = 3


# Why these numbers: ahead of each throw a new player pays 1 for the word's first letter and, as
# long as he wins, puts all he has on the word's next one. A win is worth the sides times what is
# put, so the game is fair: what all players hold grows by 1 a throw on the average.
# For each count of the word's first letters: what the players hold if just these stand at the end.
def held_by_count(sides, word):
    shorter = shorter_beginnings(word)
    held = [0]
    power = 1
    for count in range(1, len(word) + 1):
        power = power * sides
        held.append(power + held[shorter[count]])
    return held


# What the players of the word hold at its end less what they hold now is what the throws between
# bring, 1 for each: so it is also how many these are on the average.
def waits(sides, word):
    check_sides(sides)
    check_word(sides, word)
    held = held_by_count(sides, word)
    return Wait([held[len(word)] - now for now in held])


# For each count of throws: what the players of the one word hold beyond those of the other.
def margins_by_count(sides, one, other, throws):
    ones = held_by_count(sides, one)
    others = held_by_count(sides, other)
    reached = reached_by_count(one, throws)
    other_reached = reached_by_count(other, throws)
    return [ones[count] - others[other_count] for count, other_count in zip(reached, other_reached)]


# Both words' players get as much by each throw, so the margin stays as it is on the average. It
# ends as the one word's or as the other's: how far a state's lies above the other word's, of how
# far the one word's does, is how likely the one word comes first.
def race(sides, one, other):
    check_sides(sides)
    check_word(sides, one)
    check_word(sides, other)
    if one in other or other in one:
        raise Within("neither word may stand in the other")
    margins = {}
    for throws in (one, other):
        for count, margin in enumerate(margins_by_count(sides, one, other, throws)):
            margins[throws[:count]] = margin
    parts = [margins[state] - margins[other] for state in beginnings(one, other)]
    return Race(parts, margins[one] - margins[other])


def likelier(word):
    check_word(COIN_SIDES, word)
    if len(word) < LEAST_LETTERS:
        raise BadWord("a likelier word is told of three letters or more")
    first = "b" if word[1] == "a" else "a"
    return first + word[:-1]
