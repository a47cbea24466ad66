import itertools
import unittest

from firstword.answers import Race, Wait
from firstword.errors import BadSides, BadWord, Within
from firstword.waiting import likelier, race, waits
from helper import (
    ALL_LETTERS, LONG_WORDS, NO_SIDES, NO_TEXTS, SOME_RACES, each_race, each_sides_and_word, no_words,
    race_is_as_told, refused, short_words, states_as_told, texts_with_other_signs, wait_is_as_told,
)


class TestWaits(unittest.TestCase):
    def test_tables_known_by_heart(self):
        self.assertEqual(waits(2, "a").table, [2, 0])
        self.assertEqual(waits(2, "ab").table, [4, 2, 0])
        self.assertEqual(waits(2, "aa").table, [6, 4, 0])
        self.assertEqual(waits(2, "aba").table, [10, 8, 6, 0])
        self.assertEqual(waits(sides=2, word="bbb").table, [14, 12, 8, 0])
        self.assertEqual(waits(6, "f").table, [6, 0])
        self.assertEqual(waits(26, "abracadabra").table[0], 26**11 + 26**4 + 26)

    def test_the_kind(self):
        for sides, word in each_sides_and_word():
            told = waits(sides, word)
            self.assertIs(type(told), Wait)
            self.assertIs(type(told.table), list)
            self.assertEqual({type(number) for number in told.table}, {int})

    def test_as_told(self):
        for sides, word in each_sides_and_word():
            with self.subTest(sides=sides, word=word):
                told = waits(sides, word)
                self.assertTrue(wait_is_as_told(sides, word, told.table))
                self.assertIs(told.shows(sides, word), True)

    def test_each_short_word_of_each_sides(self):
        for sides in range(2, 27):
            last = ALL_LETTERS[sides - 1]
            for word in short_words("a" + last, 4):
                self.assertTrue(wait_is_as_told(sides, word, waits(sides, word).table), (sides, word))

    def test_each_longer_word_of_a_coin(self):
        for word in short_words("ab", 8):
            self.assertTrue(wait_is_as_told(2, word, waits(2, word).table), word)

    def test_long_words(self):
        for word in LONG_WORDS:
            for sides in (ord(max(word)) - ord("a") + 1, 26):
                if sides > 1:
                    told = waits(sides, word)
                    self.assertEqual(len(told.table), len(word) + 1)
                    self.assertIs(told.shows(sides, word), True, (sides, word))
        for sides, word in ((2, "ab" * 40 + "a"), (2, "a" * 60), (3, "abcab" * 9), (26, ALL_LETTERS * 2 + "ab")):
            self.assertTrue(wait_is_as_told(sides, word, waits(sides, word).table), (sides, word))

    def test_a_new_answer_each_time(self):
        told = waits(2, "aba")
        told.table[0] = 99
        told.table.append(5)
        self.assertEqual(waits(2, "aba").table, [10, 8, 6, 0])


class TestRace(unittest.TestCase):
    def test_the_kind(self):
        for sides, one, other in SOME_RACES:
            told = race(sides, one, other)
            self.assertIs(type(told), Race)
            self.assertIs(type(told.parts), list)
            self.assertEqual({type(number) for number in told.parts + [told.whole]}, {int})

    def test_known_by_heart(self):
        # How likely the first word comes first, from no throws on.
        for sides, one, other, part, whole in (
            (2, "a", "b", 1, 2), (2, "ab", "bb", 3, 4), (2, "baa", "aaa", 7, 8), (2, "aab", "abb", 2, 3),
            (2, "abb", "bba", 3, 4), (2, "abab", "babb", 9, 14), (3, "a", "b", 1, 2), (6, "ff", "e", 1, 8),
        ):
            with self.subTest(sides=sides, one=one, other=other):
                told = race(sides=sides, one=one, other=other)
                self.assertEqual(told.parts[0] * whole, part * told.whole)

    def test_as_told_and_the_words_exchanged(self):
        for sides, one, other in SOME_RACES:
            for first, second in ((one, other), (other, one)):
                with self.subTest(sides=sides, first=first, second=second):
                    told = race(sides, first, second)
                    self.assertGreaterEqual(told.whole, 1)
                    self.assertEqual(len(told.parts), len(states_as_told(first, second)))
                    self.assertTrue(race_is_as_told(sides, first, second, told.parts, told.whole))
                    self.assertIs(told.shows(sides, first, second), True)

    def test_each_two_short_words(self):
        for sides, letters, most in ((2, "ab", 4), (3, "abc", 2), (7, "afg", 2), (26, "az", 3)):
            for one, other in each_race(short_words(letters, most)):
                told = race(sides, one, other)
                self.assertTrue(race_is_as_told(sides, one, other, told.parts, told.whole), (sides, one, other))

    def test_each_sides(self):
        for sides in range(2, 27):
            last = ALL_LETTERS[sides - 1]
            for one, other in (("a", last), ("a" + last, last * 3), (last + "aa" + last, "aa" + last + "a")):
                for first, second in ((one, other), (other, one)):
                    told = race(sides, first, second)
                    self.assertTrue(race_is_as_told(sides, first, second, told.parts, told.whole), (sides, first, second))

    def test_long_words(self):
        for sides, one, other in ((2, "ab" * 20, "ba" * 19 + "a"), (2, "a" * 30 + "b", "b" + "a" * 30), (5, "abe" * 9, "ba")):
            told = race(sides, one, other)
            self.assertTrue(race_is_as_told(sides, one, other, told.parts, told.whole), (sides, one, other))
        for sides, one, other in ((2, "a" * 400 + "b", "b" + "a" * 400), (26, ALL_LETTERS * 9 + "b", ALL_LETTERS[::-1] * 9)):
            self.assertIs(race(sides, one, other).shows(sides, one, other), True)
            self.assertIs(race(sides, other, one).shows(sides, other, one), True)

    def test_a_new_answer_each_time(self):
        told = race(2, "ab", "bb")
        parts, whole = list(told.parts), told.whole
        told.parts.clear()
        told.whole = 0
        again = race(2, "ab", "bb")
        self.assertEqual((again.parts, again.whole), (parts, whole))


class TestLikelier(unittest.TestCase):
    def test_each_word_of_three_letters(self):
        told = {word: likelier(word) for word in map("".join, itertools.product("ab", repeat=3))}
        self.assertEqual(told, {
            "aaa": "baa", "aab": "baa", "aba": "aab", "abb": "aab",
            "baa": "bba", "bab": "bba", "bba": "abb", "bbb": "abb",
        })

    def test_as_told_and_likelier_than_half(self):
        for word in short_words("ab", 9):
            if len(word) >= 3:
                told = likelier(word)
                self.assertIs(type(told), str)
                self.assertEqual(told[1:], word[:-1])
                self.assertEqual({told[0], word[1]}, {"a", "b"})
                answer = race(2, told, word)
                self.assertGreater(2 * answer.parts[0], answer.whole, word)
                self.assertTrue(answer.shows(2, told, word))

    def test_long_words(self):
        for word in ("a" * 500, "ab" * 250, "b" * 300 + "a", "ba" * 100 + "b"):
            told = likelier(word=word)
            self.assertEqual(told, ("b" if word[1] == "a" else "a") + word[:-1])
            answer = race(2, told, word)
            self.assertGreater(2 * answer.parts[0], answer.whole)


class TestRefusals(unittest.TestCase):
    def test_no_sides(self):
        for sides in NO_SIDES:
            with self.subTest(sides=sides):
                refused(self, BadSides, waits, sides, "a")
                refused(self, BadSides, race, sides, "a", "b")

    def test_no_word(self):
        for sides in (2, 3, 25, 26):
            for word in no_words(sides):
                with self.subTest(sides=sides, word=word):
                    refused(self, BadWord, waits, sides, word)
                    refused(self, BadWord, race, sides, word, "b")
                    refused(self, BadWord, race, sides, "b", word)
                    refused(self, BadWord, race, sides, word, word)

    def test_the_letters_of_each_sides(self):
        for sides in range(2, 27):
            taken = ALL_LETTERS[:sides]
            self.assertIs(waits(sides, taken).shows(sides, taken), True)
            self.assertIs(race(sides, taken, taken[::-1]).shows(sides, taken, taken[::-1]), True)
            for letter in ALL_LETTERS[sides:]:
                refused(self, BadWord, waits, sides, taken + letter)
                refused(self, BadWord, race, sides, taken + letter, "a")
                refused(self, BadWord, race, sides, "a", taken + letter)

    def test_one_word_within_the_other(self):
        for one, other in (("a", "a"), ("a", "ba"), ("ab", "abb"), ("ab", "bab"), ("bb", "abba"), ("abab", "abab")):
            for sides in (2, 3, 26):
                refused(self, Within, race, sides, one, other)
                refused(self, Within, race, sides, other, one)

    def test_exactly_those_within_are_refused(self):
        for one, other in itertools.product(short_words("ab", 4), repeat=2):
            if one in other or other in one:
                refused(self, Within, race, 2, one, other)
            else:
                self.assertIs(type(race(2, one, other)), Race)

    def test_sides_are_refused_first(self):
        for sides in (0, 1, 27, True, None, "2", [2]):
            for word in ("", "A", "z!", None, 5, True, ["a"]):
                refused(self, BadSides, waits, sides, word)
                refused(self, BadSides, race, sides, word, "a")
                refused(self, BadSides, race, sides, "a", word)
                refused(self, BadSides, race, sides, word, word)
            refused(self, BadSides, race, sides, "a", "a")

    def test_no_word_is_refused_ahead_of_one_within(self):
        refused(self, BadWord, race, 2, "", "a")
        refused(self, BadWord, race, 2, "a", "")
        refused(self, BadWord, race, 2, "c", "c")
        refused(self, BadWord, race, 2, "a", "ac")
        refused(self, BadWord, race, 2, "ca", "a")
        refused(self, BadWord, race, 26, "a", "a b")

    def test_no_word_of_a_coin_of_three_letters(self):
        for word in ("", "a", "b", "aa", "ab", "ba", "bb", "c", "abc", "cab", "aac", "acb", "zzz", "aabz", "ab\n", "ABA"):
            refused(self, BadWord, likelier, word)
        for word in (*no_words(2), *NO_TEXTS, ["a", "b", "a"], ("a", "b", "a"), b"aba", 3, True):
            refused(self, BadWord, likelier, word)
        for text in texts_with_other_signs():
            refused(self, BadWord, likelier, text + "aba")


class TestNothingIsKept(unittest.TestCase):
    def test_the_same_is_told_whatever_was_asked_ahead(self):
        def told():
            races = [race(sides, one, other) for sides, one, other in SOME_RACES]
            return [waits(2, "aba").table, likelier("aba")] + [(answer.parts, answer.whole) for answer in races]

        first = told()
        refused(self, BadWord, waits, 2, "c")
        refused(self, Within, race, 2, "a", "ab")
        self.assertEqual(told(), first)


if __name__ == "__main__":
    unittest.main()
