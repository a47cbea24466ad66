import itertools
import unittest
from fractions import Fraction

from firstword import answers
from firstword.answers import Answer, Race, Wait
from firstword.waiting import race, waits
from helper import (
    LONG_WORDS, SOME_RACES, each_race, each_sides_and_word, race_is_as_told, short_words, states_as_told,
    wait_is_as_told,
)


# Of a list: with one number changed by one, left out or put in, told backwards, all numbers twice, none at all.
def changed_lists(numbers):
    for place in range(len(numbers)):
        for more in (1, -1):
            yield numbers[:place] + [numbers[place] + more] + numbers[place + 1:]
        yield numbers[:place] + numbers[place + 1:]
    for place in range(len(numbers) + 1):
        for put in {0, 1, -1, numbers[0], numbers[place - 1]}:
            yield numbers[:place] + [put] + numbers[place:]
    yield numbers[::-1]
    yield numbers * 2
    yield [number for number in numbers for _ in range(2)]
    yield []


class TestClasses(unittest.TestCase):
    def test_the_answers_stand_straight_under_answer(self):
        self.assertEqual(Wait.__bases__, (Answer,))
        self.assertEqual(Race.__bases__, (Answer,))
        self.assertEqual(Answer.__bases__, (object,))
        self.assertEqual([Answer.__module__, Wait.__module__, Race.__module__], [answers.__name__] * 3)

    def test_fields_by_place_and_by_name(self):
        self.assertEqual(vars(Wait([2, 0])), {"table": [2, 0]})
        self.assertEqual(vars(Wait(table=[2, 0])), {"table": [2, 0]})
        self.assertEqual(vars(Race([1, 2, 0], 2)), {"parts": [1, 2, 0], "whole": 2})
        self.assertEqual(vars(Race(parts=[1, 2, 0], whole=2)), {"parts": [1, 2, 0], "whole": 2})

    def test_any_numbers_are_taken(self):
        self.assertEqual(Wait([]).table, [])
        self.assertEqual(Wait([-5, 10**40]).table, [-5, 10**40])
        self.assertEqual((Race([], -3).parts, Race([], -3).whole), ([], -3))

    def test_the_list_handed_in_is_copied(self):
        numbers = [10, 8, 6, 0]
        wait, again = Wait(numbers), Wait(numbers)
        self.assertIsNot(wait.table, numbers)
        self.assertIsNot(wait.table, again.table)
        numbers[0] = 99
        numbers.append(7)
        self.assertEqual(wait.table, [10, 8, 6, 0])
        self.assertTrue(wait.shows(2, "aba"))
        wait.table.append(1)
        self.assertEqual((numbers, again.table), ([99, 8, 6, 0, 7], [10, 8, 6, 0]))

        parts = [1, 2, 0]
        first, second = Race(parts, 2), Race(parts, 2)
        self.assertIsNot(first.parts, parts)
        self.assertIsNot(first.parts, second.parts)
        parts.clear()
        self.assertEqual(first.parts, [1, 2, 0])
        self.assertTrue(first.shows(2, "a", "b"))
        first.parts.pop()
        self.assertEqual((parts, second.parts), ([], [1, 2, 0]))


class TestWaitShows(unittest.TestCase):
    def test_tables_known_by_heart(self):
        for sides, word, table in (
            (2, "a", [2, 0]), (2, "b", [2, 0]), (26, "z", [26, 0]), (2, "aa", [6, 4, 0]), (2, "ab", [4, 2, 0]),
            (2, "aaa", [14, 12, 8, 0]), (2, "aba", [10, 8, 6, 0]), (2, "abb", [8, 6, 4, 0]),
            (3, "abc", [27, 24, 18, 0]), (26, "zz", [702, 676, 0]),
        ):
            with self.subTest(sides=sides, word=word):
                self.assertIs(Wait(table).shows(sides, word), True)
                self.assertIs(Wait(table=table).shows(sides=sides, word=word), True)

    def test_the_right_table(self):
        for sides, word in each_sides_and_word():
            with self.subTest(sides=sides, word=word):
                table = waits(sides, word).table
                self.assertTrue(wait_is_as_told(sides, word, table))
                self.assertIs(Wait(table).shows(sides, word), True)

    def test_any_other_table(self):
        for sides, word in each_sides_and_word():
            for table in changed_lists(waits(sides, word).table):
                with self.subTest(sides=sides, word=word, table=table):
                    self.assertIs(Wait(table).shows(sides, word), False)

    def test_other_numbers(self):
        for sides, word in each_sides_and_word():
            table = waits(sides, word).table
            for times in (2, 3, -1, 0):
                self.assertIs(Wait([times * number for number in table]).shows(sides, word), False, (sides, word))
            for more in (1, -1, sides, -sides):
                self.assertIs(Wait([more + number for number in table]).shows(sides, word), False, (sides, word))
                behind = [more + number for number in table[:-1]] + [0]
                self.assertIs(Wait(behind).shows(sides, word), False, (sides, word))

    def test_each_table_of_small_numbers(self):
        for sides, words in ((2, ("a", "b", "aa", "ab")), (3, ("c", "ca"))):
            for word in words:
                for length in range(len(word) + 3):
                    for table in itertools.product(range(-1, 13 if length < 4 else 5), repeat=length):
                        told = Wait(list(table)).shows(sides, word)
                        self.assertIs(told, wait_is_as_told(sides, word, table), (sides, word, table))

    def test_the_table_of_another_word(self):
        for sides, letters in ((2, "ab"), (3, "abc")):
            words = short_words(letters, 4)
            tables = {word: waits(sides, word).table for word in words}
            for one, other in itertools.product(words, repeat=2):
                told = Wait(tables[other]).shows(sides, one)
                self.assertIs(told, tables[one] == tables[other], (sides, one, other))

    def test_the_table_of_other_sides(self):
        for sides, others in itertools.permutations((2, 3, 6, 26), 2):
            for word in ("a", "ab", "aba", "bbb"):
                self.assertIs(waits(others, word).shows(sides, word), False, (sides, others, word))

    def test_long_words(self):
        for word in LONG_WORDS:
            table = waits(26, word).table
            self.assertIs(Wait(table).shows(26, word), True, word)
            for place in (0, 1, len(word) // 2, len(word) - 1, len(word)):
                wrong = list(table)
                wrong[place] += 1
                self.assertIs(Wait(wrong).shows(26, word), False, (word, place))

    def test_by_the_field_as_it_stands_then(self):
        wait = Wait([10, 8, 6, 0])
        self.assertIs(wait.shows(2, "aba"), True)
        wait.table[1] = 7
        self.assertIs(wait.shows(2, "aba"), False)
        wait.table[1] = 8
        self.assertIs(wait.shows(2, "aba"), True)
        wait.table.append(0)
        self.assertIs(wait.shows(2, "aba"), False)
        wait.table = [8, 6, 4, 0]
        self.assertIs(wait.shows(2, "aba"), False)
        self.assertIs(wait.shows(2, "abb"), True)

    def test_true_and_false_are_no_numbers(self):
        self.assertIs(Wait([2, False]).shows(2, "a"), False)

    def test_asking_changes_nothing(self):
        wait = Wait([10, 8, 6, 0])
        held = wait.table
        wait.shows(2, "aba")
        wait.shows(3, "c")
        self.assertIs(wait.table, held)
        self.assertEqual(vars(wait), {"table": [10, 8, 6, 0]})


class TestRaceShows(unittest.TestCase):
    def test_races_known_by_heart(self):
        for sides, one, other, parts, whole in (
            (2, "a", "b", [1, 2, 0], 2),
            (2, "b", "a", [1, 0, 2], 2),
            (3, "a", "c", [1, 2, 0], 2),
            (2, "ab", "bb", [3, 4, 4, 2, 0], 4),
            (2, "bb", "ab", [1, 0, 0, 2, 4], 4),
        ):
            with self.subTest(sides=sides, one=one, other=other):
                self.assertIs(Race(parts, whole).shows(sides, one, other), True)
                self.assertIs(Race(parts=parts, whole=whole).shows(sides=sides, one=one, other=other), True)
                self.assertIs(Race(parts, whole).shows(sides, other, one), False)

    def test_the_right_numbers_and_so_many_times_as_large(self):
        for sides, one, other in SOME_RACES:
            told = race(sides, one, other)
            for times in (1, 2, 3, 7, 10**20):
                with self.subTest(sides=sides, one=one, other=other, times=times):
                    parts = [times * part for part in told.parts]
                    self.assertTrue(race_is_as_told(sides, one, other, parts, times * told.whole))
                    self.assertIs(Race(parts, times * told.whole).shows(sides, one, other), True)

    def test_any_other_numbers(self):
        for sides, one, other in SOME_RACES:
            told = race(sides, one, other)
            for parts in changed_lists(told.parts):
                with self.subTest(sides=sides, one=one, other=other, parts=parts):
                    self.assertIs(Race(parts, told.whole).shows(sides, one, other), False)

    def test_another_whole(self):
        for sides, one, other in SOME_RACES:
            told = race(sides, one, other)
            for whole in (told.whole + 1, told.whole - 1, 2 * told.whole, -told.whole, 0, -1):
                with self.subTest(sides=sides, one=one, other=other, whole=whole):
                    self.assertIs(Race(told.parts, whole).shows(sides, one, other), False)
            for times in (2, -1, 0):
                parts = [times * part for part in told.parts]
                self.assertIs(Race(parts, told.whole).shows(sides, one, other), False)

    # There all else is as told, but for the whole itself.
    def test_a_whole_of_nought_or_below_it(self):
        for sides, one, other in SOME_RACES:
            told = race(sides, one, other)
            for times in (0, -1, -2):
                with self.subTest(sides=sides, one=one, other=other, times=times):
                    parts = [times * part for part in told.parts]
                    self.assertIs(Race(parts, times * told.whole).shows(sides, one, other), False)

    def test_the_words_exchanged(self):
        for sides, one, other in SOME_RACES:
            told = race(sides, one, other)
            self.assertIs(told.shows(sides, other, one), False)
            back = [told.whole - part for part in told.parts]
            self.assertIs(Race(back, told.whole).shows(sides, other, one), True)

    def test_each_few_small_numbers(self):
        for sides, one, other in ((2, "a", "b"), (3, "b", "c"), (2, "bb", "a"), (2, "ab", "bb")):
            for length in range(len(states_as_told(one, other)) + 2):
                for parts in itertools.product(range(5 if length < 6 else 2), repeat=length):
                    for whole in range(-1, 5):
                        told = Race(list(parts), whole).shows(sides, one, other)
                        right = race_is_as_told(sides, one, other, parts, whole)
                        self.assertIs(told, right, (sides, one, other, parts, whole))

    def test_the_numbers_of_another_race(self):
        races = list(each_race(short_words("ab", 3)))
        told = {words: race(2, *words) for words in races}
        for words, others in itertools.product(races, repeat=2):
            answer = told[others]
            right = race_is_as_told(2, *words, answer.parts, answer.whole)
            self.assertIs(Race(answer.parts, answer.whole).shows(2, *words), right, (words, others))

    def test_long_words(self):
        for one, other in (("ab" * 100, "ba" * 99 + "a"), ("a" * 200 + "b", "b" + "a" * 200), ("a" * 150, "b" * 30)):
            told = race(26, one, other)
            self.assertIs(told.shows(26, one, other), True)
            told.parts[len(told.parts) // 2] += 1
            self.assertIs(told.shows(26, one, other), False)

    def test_by_the_fields_as_they_stand_then(self):
        answer = Race([3, 4, 4, 2, 0], 4)
        self.assertIs(answer.shows(2, "ab", "bb"), True)
        answer.whole = 8
        self.assertIs(answer.shows(2, "ab", "bb"), False)
        answer.parts = [6, 8, 8, 4, 0]
        self.assertIs(answer.shows(2, "ab", "bb"), True)
        answer.parts[3] = 5
        self.assertIs(answer.shows(2, "ab", "bb"), False)
        answer.parts[3] = 4
        answer.parts.pop()
        self.assertIs(answer.shows(2, "ab", "bb"), False)

    def test_true_and_false_are_no_numbers(self):
        self.assertIs(Race([1, 2, False], 2).shows(2, "a", "b"), False)
        self.assertIs(Race([True, 2, 0], 2).shows(2, "a", "b"), False)

    def test_asking_changes_nothing(self):
        answer = Race([3, 4, 4, 2, 0], 4)
        held = answer.parts
        answer.shows(2, "ab", "bb")
        answer.shows(3, "c", "a")
        self.assertIs(answer.parts, held)
        self.assertEqual(vars(answer), {"parts": [3, 4, 4, 2, 0], "whole": 4})

    # The number over the whole is how likely it is: it lies from 0 to 1 and sums to 1 with the other word's.
    def test_shares_of_one(self):
        for sides, one, other in SOME_RACES:
            told, back = race(sides, one, other), race(sides, other, one)
            for part, against in zip(told.parts, back.parts):
                share = Fraction(part, told.whole)
                self.assertTrue(0 <= share <= 1)
                self.assertEqual(share + Fraction(against, back.whole), 1)


if __name__ == "__main__":
    unittest.main()
