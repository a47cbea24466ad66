import itertools
import unittest

from firstword.errors import BadThrows, BadWord
from firstword.words import ends, overlaps, stands
from helper import LONG_WORDS, NO_TEXTS, all_texts, texts_with_other_signs


class OwnText(str):
    pass


def overlaps_as_told(word):
    return [count for count in range(1, len(word) + 1) if word[:count] == word[len(word) - count:]]


def stands_as_told(word, throws):
    return max(count for count in range(len(word) + 1) if throws.endswith(word[:count]))


def ends_as_told(word, throws):
    return [count for count in range(len(throws) + 1) if throws[:count].endswith(word)]


class TestOverlaps(unittest.TestCase):
    def test_one_letter(self):
        for letter in "abcdefghijklmnopqrstuvwxyz":
            self.assertEqual(overlaps(letter), [1])

    def test_none_but_the_whole(self):
        for word in ("ab", "aab", "abc", "aabb", "zyx", "abcdefghijklmnopqrstuvwxyz"):
            with self.subTest(word=word):
                self.assertEqual(overlaps(word), [len(word)])

    def test_several(self):
        self.assertEqual(overlaps("aa"), [1, 2])
        self.assertEqual(overlaps("aba"), [1, 3])
        self.assertEqual(overlaps("aaaaa"), [1, 2, 3, 4, 5])
        self.assertEqual(overlaps("ababab"), [2, 4, 6])
        self.assertEqual(overlaps("abaababaab"), [2, 5, 10])
        self.assertEqual(overlaps("zyzzyz"), [1, 3, 6])

    def test_each_short_word(self):
        for word in itertools.chain(all_texts("ab", 9), all_texts("axz", 6)):
            if word:
                self.assertEqual(overlaps(word), overlaps_as_told(word), word)

    def test_long_words(self):
        self.assertEqual(overlaps("a" * 700), list(range(1, 701)))
        self.assertEqual(overlaps("abc" * 200), list(range(3, 601, 3)))
        for word in LONG_WORDS:
            with self.subTest(word=word):
                self.assertEqual(overlaps(word), overlaps_as_told(word))

    def test_a_very_long_word_is_told_without_many_steps(self):
        self.assertEqual(overlaps("a" * 20000 + "b"), [20001])

    def test_a_new_list_of_numbers_each_time(self):
        told = overlaps("abab")
        self.assertIs(type(told), list)
        self.assertTrue(all(type(count) is int for count in told))
        told.append(99)
        told[0] = 77
        self.assertEqual(overlaps("abab"), [2, 4])

    def test_no_word_is_refused(self):
        for thing in ("",) + NO_TEXTS + tuple(texts_with_other_signs()):
            with self.subTest(thing=thing):
                self.assertRaises(BadWord, overlaps, thing)


class TestStands(unittest.TestCase):
    def test_no_throws(self):
        for word in ("a", "ab", "zzz"):
            self.assertEqual(stands(word, ""), 0)

    def test_fewer_throws_than_letters(self):
        self.assertEqual(stands("abab", "a"), 1)
        self.assertEqual(stands("abab", "aba"), 3)
        self.assertEqual(stands("abab", "bba"), 1)
        self.assertEqual(stands("abab", "abb"), 0)

    def test_a_beginning_at_the_end(self):
        self.assertEqual(stands("abc", "ccab"), 2)
        self.assertEqual(stands("abc", "ccaba"), 1)
        self.assertEqual(stands("xyz", "abcxy"), 2)

    def test_the_whole_word_at_the_end(self):
        self.assertEqual(stands("a", "a"), 1)
        self.assertEqual(stands("abc", "abc"), 3)
        self.assertEqual(stands("abc", "abcabc"), 3)
        self.assertEqual(stands("aaa", "aaaaaaa"), 3)

    def test_nothing_at_the_end(self):
        self.assertEqual(stands("a", "b"), 0)
        self.assertEqual(stands("abc", "abcc"), 0)
        self.assertEqual(stands("abc", "xyz"), 0)

    def test_the_most_of_several(self):
        self.assertEqual(stands("aab", "aaa"), 2)
        self.assertEqual(stands("ababc", "abababab"), 4)
        self.assertEqual(stands("abaabb", "abaaba"), 3)
        self.assertEqual(stands("abab", "ababa"), 3)

    def test_each_short_word_and_throws(self):
        for letters, most_word, most_throws in (("ab", 4, 8), ("amz", 3, 5)):
            for word in all_texts(letters, most_word):
                for throws in all_texts(letters, most_throws):
                    if word:
                        self.assertEqual(stands(word, throws), stands_as_told(word, throws), (word, throws))

    def test_long_words(self):
        for word in LONG_WORDS:
            for throws in (word, word + word, word[:-1], word[1:], word + "a", word[:-1] + "z", word[:300] + word):
                self.assertEqual(stands(word, throws), stands_as_told(word, throws), (word, throws))

    def test_a_whole_number(self):
        for throws in ("", "a", "ab"):
            self.assertIs(type(stands("ab", throws)), int)


class TestEnds(unittest.TestCase):
    def test_no_throws(self):
        for word in ("a", "ab", "zzz"):
            self.assertEqual(ends(word, ""), [])

    def test_without_the_word(self):
        self.assertEqual(ends("a", "bbb"), [])
        self.assertEqual(ends("abc", "ab"), [])
        self.assertEqual(ends("aab", "abababa"), [])

    def test_again_and_again_with_letters_between(self):
        self.assertEqual(ends("a", "abba"), [1, 4])
        self.assertEqual(ends("ab", "abxabyyab"), [2, 5, 9])
        self.assertEqual(ends("ab", "xabab"), [3, 5])

    def test_places_that_overlap(self):
        self.assertEqual(ends("aa", "aaaa"), [2, 3, 4])
        self.assertEqual(ends("aba", "ababababb"), [3, 5, 7])
        self.assertEqual(ends("abaab", "abaabaabxabaab"), [5, 8, 14])

    def test_each_short_word_and_throws(self):
        for letters, most_word, most_throws in (("ab", 4, 8), ("amz", 3, 5)):
            for word in all_texts(letters, most_word):
                for throws in all_texts(letters, most_throws):
                    if word:
                        self.assertEqual(ends(word, throws), ends_as_told(word, throws), (word, throws))

    def test_long_words(self):
        for word in LONG_WORDS:
            for throws in (word, word[:-1], word * 3, word + "z" + word, "z" + word + word[:100] + word):
                self.assertEqual(ends(word, throws), ends_as_told(word, throws), (word, throws))

    def test_a_new_list_of_numbers_each_time(self):
        told = ends("a", "aba")
        self.assertIs(type(told), list)
        self.assertTrue(all(type(count) is int for count in told))
        told.append(99)
        told[0] = 77
        self.assertEqual(ends("a", "aba"), [1, 3])
        none = ends("a", "")
        none.append(5)
        self.assertEqual(ends("a", ""), [])


class TestRefusalsOfWordAndThrows(unittest.TestCase):
    def test_no_word_is_refused(self):
        for ask in (stands, ends):
            for thing in ("",) + NO_TEXTS + tuple(texts_with_other_signs()):
                with self.subTest(ask=ask, thing=thing):
                    self.assertRaises(BadWord, ask, thing, "ab")

    def test_no_throws_are_refused(self):
        for ask in (stands, ends):
            for thing in NO_TEXTS + tuple(texts_with_other_signs()):
                with self.subTest(ask=ask, thing=thing):
                    self.assertRaises(BadThrows, ask, "ab", thing)

    def test_the_word_is_refused_ahead_of_the_throws(self):
        for ask in (stands, ends):
            for word in ("", "A", None, 5, True, ["a"]):
                for throws in ("A", "a b", None, 5, True, ["a"]):
                    with self.subTest(ask=ask, word=word, throws=throws):
                        self.assertRaises(BadWord, ask, word, throws)

    def test_wrong_throws_are_refused_behind_a_place_of_the_word(self):
        for ask in (stands, ends):
            self.assertRaises(BadThrows, ask, "ab", "abab!")

    def test_any_letters_are_taken(self):
        letters = "abcdefghijklmnopqrstuvwxyz"
        self.assertEqual(overlaps(letters), [26])
        self.assertEqual(stands(letters, letters), 26)
        self.assertEqual(ends(letters, letters), [26])

    def test_a_text_of_an_own_class_is_a_text(self):
        self.assertEqual(overlaps(OwnText("aa")), [1, 2])
        self.assertEqual(ends(OwnText("a"), OwnText("aba")), [1, 3])


class TestNothingIsKept(unittest.TestCase):
    def test_the_same_is_told_whatever_was_asked_ahead(self):
        asked = [("abab", "ababab"), ("aab", "aaab"), ("z", "")]
        first = [(overlaps(word), stands(word, throws), ends(word, throws)) for word, throws in asked]
        self.assertRaises(BadWord, overlaps, "")
        self.assertRaises(BadThrows, ends, "ab", "AB")
        second = [(overlaps(word), stands(word, throws), ends(word, throws)) for word, throws in reversed(asked)]
        self.assertEqual(first, second[::-1])


if __name__ == "__main__":
    unittest.main()
