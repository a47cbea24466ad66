import itertools
import unittest

from firstword.counting import firsts, without
from firstword.errors import BadMany, BadSides, BadWord
from helper import ALL_LETTERS, NO_MANY, NO_SIDES, each_sides_and_word, no_words, refused, short_words


def rows(sides, many):
    return ["".join(signs) for signs in itertools.product(ALL_LETTERS[:sides], repeat=many)]


def firsts_as_told(word, all_rows):
    return sum(1 for row in all_rows if row.endswith(word) and word not in row[:-1])


def without_as_told(word, all_rows):
    return sum(1 for row in all_rows if word not in row)


class TestFewThrows(unittest.TestCase):
    def held_against_each_row(self, sides, words, most):
        for many in range(most + 1):
            all_rows = rows(sides, many)
            for word in words:
                with self.subTest(sides=sides, word=word, many=many):
                    self.assertEqual(firsts(sides, word, many), firsts_as_told(word, all_rows))
                    self.assertEqual(without(sides, word, many), without_as_told(word, all_rows))

    def test_a_coin(self):
        self.held_against_each_row(2, short_words("ab", 5), 10)

    def test_three_sides(self):
        self.held_against_each_row(3, short_words("abc", 3) + ["abcab", "cacac", "bbbb"], 7)

    def test_more_sides(self):
        self.held_against_each_row(6, ["f", "ff", "af", "faf", "abcd", "cccc"], 5)
        self.held_against_each_row(26, ["z", "zz", "az", "zaz", "abc"], 3)

    def test_no_throws(self):
        for sides, word in each_sides_and_word():
            self.assertEqual(firsts(sides, word, 0), 0)
            self.assertEqual(without(sides, word, 0), 1)

    def test_as_many_throws_as_letters(self):
        for sides, word in each_sides_and_word():
            many = len(word)
            self.assertEqual(firsts(sides, word, many - 1), 0)
            self.assertEqual(without(sides, word, many - 1), sides ** (many - 1))
            self.assertEqual(firsts(sides, word, many), 1)
            self.assertEqual(without(sides, word, many), sides ** many - 1)

    def test_arguments_by_name(self):
        self.assertEqual(firsts(sides=2, word="ab", many=3), 2)
        self.assertEqual(without(sides=2, word="ab", many=3), 4)

    def test_whole_numbers(self):
        for many in (0, 1, 5, 300):
            self.assertIs(type(firsts(3, "aba", many)), int)
            self.assertIs(type(without(3, "aba", many)), int)


class TestManyThrows(unittest.TestCase):
    # Without the word and one throw more: it stands at the end for the first time, or still nowhere.
    def test_one_throw_more(self):
        for sides, word in each_sides_and_word():
            told = [(firsts(sides, word, many), without(sides, word, many)) for many in range(301)]
            for now, behind in itertools.pairwise(told):
                self.assertEqual(sides * now[1], behind[0] + behind[1], (sides, word))
                self.assertTrue(min(now + behind) >= 0)

    # By another way: the rows without the word, by how many of its first letters stand at their end.
    def test_held_against_a_count_by_letters_at_the_end(self):
        for sides, word in [*each_sides_and_word(), (2, "ab" * 40), (2, "a" * 300), (3, "abcab" * 7)]:
            beginnings = [word[:count] for count in range(len(word) + 1)]
            leads = [
                [len(max((found for found in beginnings if (state + letter).endswith(found)), key=len))
                 for letter in ALL_LETTERS[:sides]]
                for state in beginnings[:-1]
            ]
            counts = [1] + [0] * len(word)
            for many in range(301):
                if many in (0, 1, 2, 3, 4, 5, 6, 7, 8, 20, 79, 80, 81, 120, 299, 300):
                    self.assertEqual(firsts(sides, word, many), counts[-1], (sides, word, many))
                    self.assertEqual(without(sides, word, many), sum(counts[:-1]), (sides, word, many))
                following = [0] * len(counts)
                for state, row in enumerate(leads):
                    for lead in row:
                        following[lead] += counts[state]
                counts = following

    def test_known_by_heart(self):
        self.assertEqual([firsts(2, "a", many) for many in (1, 2, 150, 300)], [1, 1, 1, 1])
        self.assertEqual([without(2, "a", many) for many in (1, 2, 150, 300)], [1, 1, 1, 1])
        self.assertEqual(firsts(26, "z", 300), 25**299)
        self.assertEqual(without(26, "z", 300), 25**300)
        self.assertEqual(without(2, "ab", 300), 301)
        self.assertEqual(firsts(2, "ab", 300), 299)

    def test_words_longer_than_the_throws(self):
        for many in (0, 1, 299, 300):
            for word in ("ab" * 151, "a" * 301, "b" * 5000):
                self.assertEqual(firsts(2, word, many), 0)
                self.assertEqual(without(2, word, many), 2**many)
        self.assertEqual(firsts(2, "a" * 300, 300), 1)
        self.assertEqual(without(2, "a" * 300, 300), 2**300 - 1)


class TestRefusals(unittest.TestCase):
    def test_no_sides(self):
        for ask in (firsts, without):
            for sides in NO_SIDES:
                with self.subTest(ask=ask, sides=sides):
                    refused(self, BadSides, ask, sides, "a", 3)

    def test_no_word(self):
        for ask in (firsts, without):
            for sides in (2, 3, 25, 26):
                for word in no_words(sides):
                    with self.subTest(ask=ask, sides=sides, word=word):
                        refused(self, BadWord, ask, sides, word, 3)

    def test_the_letters_of_each_sides(self):
        for ask in (firsts, without):
            for sides in range(2, 27):
                self.assertGreaterEqual(ask(sides, ALL_LETTERS[:sides], 30), 1)
                for letter in ALL_LETTERS[sides:]:
                    refused(self, BadWord, ask, sides, letter, 3)
                    refused(self, BadWord, ask, sides, "ab" + letter, 3)

    def test_no_count_of_throws(self):
        for ask in (firsts, without):
            for many in NO_MANY:
                with self.subTest(ask=ask, many=many):
                    refused(self, BadMany, ask, 2, "ab", many)

    def test_which_goes_first(self):
        for ask in (firsts, without):
            for sides in (0, 27, True, None, "2"):
                for word in ("a", "", "A", None, True, 5):
                    for many in (3, -1, 301, True, None, "3"):
                        refused(self, BadSides, ask, sides, word, many)
            for word in ("", "c", "A", None, True, 5, ["a"]):
                for many in (3, -1, 301, False, None, "3"):
                    refused(self, BadWord, ask, 2, word, many)


class TestNothingIsKept(unittest.TestCase):
    def test_the_same_is_told_whatever_was_asked_ahead(self):
        asked = [(sides, word, many) for sides, word in each_sides_and_word() for many in (0, 3, 40)]
        first = [(firsts(*handed), without(*handed)) for handed in asked]
        refused(self, BadMany, firsts, 2, "a", 301)
        second = [(firsts(*handed), without(*handed)) for handed in reversed(asked)]
        self.assertEqual(first, second[::-1])


if __name__ == "__main__":
    unittest.main()
