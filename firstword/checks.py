"""What is handed in: whether it is of the kind that is asked for, and the refusals of what is not."""

from firstword.errors import BadMany, BadSides, BadThrows, BadWord

LETTERS = "abcdefghijklmnopqrstuvwxyz"
LEAST_SIDES = 2
MOST_SIDES = 26
MOST_MANY = 300


# Python counts True and False among the whole numbers; here they are none.
def is_whole(thing):
    return isinstance(thing, int) and not isinstance(thing, bool)


def is_throws(sides, thing):
    letters = LETTERS[:sides]
    return isinstance(thing, str) and all([sign in letters for sign in thing])


def is_word(sides, thing):
    return is_throws(sides, thing) and len(thing) > 0


def check_sides(sides):
    if not is_whole(sides) or not LEAST_SIDES <= sides <= MOST_SIDES:
        raise BadSides("sides are a whole number from 2 to 26")


def check_word(sides, word):
    if not is_word(sides, word):
        raise BadWord("a word is a text of one letter or more, each of them one of the sides' letters")


def check_throws(sides, throws):
    if not is_throws(sides, throws):
        raise BadThrows("throws are a text of letters, each of them one of the sides' letters")


def check_many(many):
    if not is_whole(many) or not 0 <= many <= MOST_MANY:
        raise BadMany("a count of throws is a whole number from 0 to 300")
