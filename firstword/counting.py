"""How many rows of throws have a word first at their end, and how many have it nowhere."""

from firstword.checks import check_many, check_sides, check_word
from firstword.words import overlaps


def firsts(sides, word, many):
    return counted_rows(sides, word, many)[0]


def without(sides, word, many):
    return counted_rows(sides, word, many)[1]


def counted_rows(sides, word, many):
    check_sides(sides)
    check_word(sides, word)
    check_many(many)
    shared = overlaps(word)[:-1]
    at_end = []
    nowhere = []
    for count in range(many + 1):
        at_end.append(first_at_end(at_end, nowhere, len(word), shared, count))
        rows = sides * nowhere[count - 1] if count > 0 else 1
        nowhere.append(rows - at_end[count])
    return (at_end[many], nowhere[many])


# A row without the word, and the word behind it, has the word at its end. It has it nowhere ahead,
# unless a word that ends further ahead shares letters with the last one, as the overlaps tell.
def first_at_end(at_end, nowhere, length, shared, count):
    ahead = count - length
    if ahead < 0:
        return 0
    return nowhere[ahead] - sum([at_end[ahead + overlap] for overlap in shared])
