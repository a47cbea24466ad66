"""Answers: tables of numbers, and whether they are what they are told to be."""

from firstword.checks import is_whole
from firstword.words import reached_by_count, shorter_beginnings


class Answer:
    pass


class Wait(Answer):
    def __init__(self, table):
        self.table = list(table)

    def shows(self, sides, word):
        if not are_wholes(self.table, len(word) + 1):
            return False
        if self.table[len(word)] != 0:
            return False
        leads = leads_by_count(sides, word)
        return all([sides * self.table[count] == sides + sum_at(self.table, row) for count, row in enumerate(leads)])


class Race(Answer):
    def __init__(self, parts, whole):
        self.parts = list(parts)
        self.whole = whole

    def shows(self, sides, one, other):
        states = beginnings(one, other)
        if self.whole < 1 or not are_wholes(self.parts, len(states)):
            return False
        part_by_state = dict(zip(states, self.parts))
        if part_by_state[one] != self.whole or part_by_state[other] != 0:
            return False
        leads = leads_by_state(sides, one, other)
        return all([sides * part_by_state[state] == sum_at(part_by_state, leads[state]) for state in leads])


def are_wholes(numbers, many):
    return len(numbers) == many and all([is_whole(number) for number in numbers])


def sum_at(numbers, places):
    return sum([numbers[place] for place in places])


# For each count of the word's first letters but all: which counts it leads to, by each letter.
# A letter that does not go on with the word leads where it leads from the shorter beginning
# that stands at the end, so each row is that one's, but for the letter that goes on.
def leads_by_count(sides, word):
    shorter = shorter_beginnings(word)
    leads = []
    for count, letter in enumerate(word):
        row = [0] * sides if count == 0 else list(leads[shorter[count]])
        row[ord(letter) - ord("a")] = count + 1
        leads.append(row)
    return leads


def beginnings_of(word):
    return [word[:count] for count in range(len(word) + 1)]


def beginnings(one, other):
    return sorted(set(beginnings_of(one) + beginnings_of(other)))


def leads_by_state(sides, one, other):
    leads = leads_of_beginnings(sides, one, other)
    leads.update(leads_of_beginnings(sides, other, one))
    return leads


# For each beginning of the word but all of it. The other word is all at the end of none of them,
# as it stands nowhere in the word: so there is always a row of its leads, too.
def leads_of_beginnings(sides, word, other):
    states = beginnings_of(word)
    other_states = beginnings_of(other)
    leads = leads_by_count(sides, word)
    other_leads = leads_by_count(sides, other)
    reached = reached_by_count(other, word)
    leads_of = {}
    for count, row in enumerate(leads):
        other_row = other_leads[reached[count]]
        leads_of[states[count]] = [max(states[own], other_states[far], key=len) for own, far in zip(row, other_row)]
    return leads_of
