import random
import unittest
from itertools import product

from oracles import accepted, chain, circle, code, counted, random_machine, rows_with, sorted_by_moves, words_with
from yardsort.errors import BadNumber, NoRow, NotMachine, NotRow, NotWord, NotYard, NoWord, TooLarge, Unbounded
from yardsort.language import machine_of
from yardsort.rank import (count_rows, count_words, number_of_word, place_of_row, row_behind, row_with_number,
                           word_behind, word_with_number)
from yardsort.rows import row_of
from yardsort.yards import Yard

HUGE = 10 ** 5000
GOLDEN = (2, (True, False), ((0, 1), (0, -1)))
NOTHING = (1, (), ())
EMPTY_WORD = (1, (True,), ((-1,),))
EVERYTHING = (6, (True,), ((0,) * 6,))
# The letter 1 leads to a circle from which no word is accepted.
SIDE_CIRCLE = (3, (True, False), ((1, 0, 0), (1, 1, 1)))
YARDS = ("s1", "s2", "s3", "d3", "(s2 q1)", "[s1 q2]", "d4", "[s2 s2]", "i4")
BAD_YARDS = (("", NotYard), ("(s)", NotYard), ("s", Unbounded), ("[s6 q]", Unbounded), ("s5", TooLarge), ("[s2 d3]", TooLarge))
NOT_MACHINES = ((0, (), ()), (7, (), ()), (1, (True,), ()), (1, (), ((0,),)), (2, (True,), ((0,),)),
                (1, (True,), ((1,),)), (1, (True,), ((-2,),)), circle(2001))
NOT_ROWS = ([0], [2], [1, 1], [1, 3], list(range(1, 62)))
NOT_LENGTHS = (-1, 61, HUGE, -HUGE)


def machines(count, seed, letters=3, states=5):
    source = random.Random(seed)
    return [random_machine(source, source.randint(1, letters), source.randint(0, states)) for _ in range(count)]


class CountWordsTest(unittest.TestCase):
    def test_examples(self):
        self.assertEqual([count_words(GOLDEN, n) for n in range(5)], [1, 1, 2, 3, 5])
        self.assertEqual(count_words(NOTHING, 0), 0)
        self.assertEqual(count_words(EMPTY_WORD, 0), 1)
        self.assertEqual(count_words(EMPTY_WORD, 1), 0)

    def test_against_the_words(self):
        for machine in machines(60, 1):
            for length in range(6):
                self.assertEqual(count_words(machine, length), len(words_with(machine, length)))
            self.assertEqual(count_words(machine, 60), counted(machine, 60)[60])

    def test_lengths(self):
        self.assertEqual(count_words(EVERYTHING, 60), 6 ** 60)
        self.assertEqual(count_words(chain(61), 60), 1)
        for machine in (GOLDEN, NOTHING):
            for length in NOT_LENGTHS:
                with self.assertRaises(BadNumber):
                    count_words(machine, length)


class NumbersTest(unittest.TestCase):
    def test_examples(self):
        self.assertEqual(number_of_word(GOLDEN, [2, 1, 1]), 2)
        self.assertEqual(word_with_number(GOLDEN, 3, 1), [1, 2, 1])
        self.assertEqual(number_of_word(GOLDEN, []), 0)
        self.assertEqual(word_with_number(GOLDEN, 0, 0), [])

    def test_against_the_words(self):
        for machine in machines(60, 2) + [SIDE_CIRCLE, GOLDEN, circle(3, 3)]:
            for length in range(5):
                words = words_with(machine, length)
                for number, word in enumerate(words):
                    self.assertEqual(number_of_word(machine, word), number)
                    self.assertEqual(word_with_number(machine, length, number), word)
                for number in (len(words), len(words) + 1, HUGE):
                    with self.assertRaises(NoWord):
                        word_with_number(machine, length, number)

    def test_words_that_are_not_accepted(self):
        for machine in machines(30, 3) + [NOTHING, SIDE_CIRCLE]:
            for length in range(4):
                for word in product(range(1, machine[0] + 1), repeat=length):
                    if not accepted(machine, list(word)):
                        with self.assertRaises(NoWord):
                            number_of_word(machine, list(word))

    def test_length_60(self):
        for machine in (EVERYTHING, GOLDEN, machine_of("d4"), SIDE_CIRCLE):
            many = counted(machine, 60)[60]
            for number in (0, 1, many // 3, many // 2, many - 2, many - 1):
                word = word_with_number(machine, 60, number)
                self.assertTrue(len(word) == 60 and accepted(machine, word))
                self.assertEqual(number_of_word(machine, word), number)
            for number in (many, many + 1):
                with self.assertRaises(NoWord):
                    word_with_number(machine, 60, number)
        self.assertEqual(number_of_word(EVERYTHING, [6] * 60), 6 ** 60 - 1)
        self.assertEqual(word_with_number(EVERYTHING, 60, 6 ** 59), [2] + [1] * 59)

    def test_not_words(self):
        for word in ([0], [3], [-1], [HUGE], [1, 0], [2, 2, 3], [1, -HUGE, 1], [1] * 61, [9] * 61, [2, 2, 0]):
            with self.assertRaises(NotWord):
                number_of_word(GOLDEN, word)
        for word in ([2], [2, 2], [1] * 59 + [2]):
            with self.assertRaises(NoWord):
                number_of_word(GOLDEN, word)
        self.assertEqual(number_of_word(GOLDEN, [1] * 60), 0)
        with self.assertRaises(NotWord):
            number_of_word(NOTHING, [2])
        with self.assertRaises(NoWord):
            number_of_word(NOTHING, [])

    def test_bad_numbers(self):
        for length in NOT_LENGTHS:
            for number in (-1, 0, 5):
                with self.assertRaises(BadNumber):
                    word_with_number(GOLDEN, length, number)
        for machine in (GOLDEN, NOTHING):
            for number in (-1, -HUGE):
                for length in (0, 3, 60):
                    with self.assertRaises(BadNumber):
                        word_with_number(machine, length, number)
        with self.assertRaises(NoWord):
            word_with_number(NOTHING, 0, 0)


class WordBehindTest(unittest.TestCase):
    def check(self, machine, word):
        behind = [other for other in words_with(machine, len(word)) if other > word]
        self.assertEqual(word_behind(machine, word), behind[0] if behind else None, (machine, word))

    def test_examples(self):
        self.assertEqual(word_behind(GOLDEN, [1, 1, 2]), [1, 2, 1])
        self.assertIsNone(word_behind(GOLDEN, [2, 1, 1]))
        self.assertIsNone(word_behind(GOLDEN, []))
        self.assertIsNone(word_behind(NOTHING, []))
        self.assertIsNone(word_behind(NOTHING, [0, 0]))

    def test_against_the_words(self):
        for machine in machines(40, 4) + [SIDE_CIRCLE, GOLDEN, circle(2, 3)]:
            for length in range(4):
                for word in product(range(0, machine[0] + 2), repeat=length):
                    self.check(machine, list(word))

    def test_entries_that_are_no_letters(self):
        for machine in (GOLDEN, SIDE_CIRCLE, (3, (True,), ((0, 0, 0),))):
            for word in product((-HUGE, -1, 0, 1, 2, 4, HUGE), repeat=3):
                self.check(machine, list(word))

    def test_from_word_to_word(self):
        for machine in machines(20, 5):
            for length in range(5):
                met = []
                word = word_behind(machine, [0] * length) if length > 0 else None
                while word is not None:
                    met.append(word)
                    word = word_behind(machine, word)
                self.assertEqual(met, words_with(machine, length) if length > 0 else [])

    def test_60_entries_and_61(self):
        for machine in (EVERYTHING, GOLDEN, machine_of("d4")):
            many = counted(machine, 60)[60]
            for number in (0, many // 2, many - 2):
                word = word_with_number(machine, 60, number)
                self.assertEqual(word_behind(machine, word), word_with_number(machine, 60, number + 1))
            self.assertIsNone(word_behind(machine, word_with_number(machine, 60, many - 1)))
            self.assertEqual(word_behind(machine, [0] * 60), word_with_number(machine, 60, 0))
            for word in ([1] * 61, [0] * 61, [HUGE] * 100):
                with self.assertRaises(NotWord):
                    word_behind(machine, word)

    def test_arguments_stay_and_results_are_new(self):
        word = [1, 1, 2]
        word_behind(GOLDEN, word).append(7)
        number_of_word(GOLDEN, word[:2])
        self.assertEqual(word, [1, 1, 2])
        word_with_number(GOLDEN, 3, 0).append(7)
        self.assertEqual(word_with_number(GOLDEN, 3, 0), [1, 1, 1])


class NoMachineTest(unittest.TestCase):
    def test_it_comes_first(self):
        for machine in NOT_MACHINES:
            for length in (-1, 2, 61):
                with self.assertRaises(NotMachine):
                    count_words(machine, length)
                for number in (-1, 0, HUGE):
                    with self.assertRaises(NotMachine):
                        word_with_number(machine, length, number)
            for word in ([], [0], [1], [1] * 61):
                for function in (number_of_word, word_behind):
                    with self.assertRaises(NotMachine):
                        function(machine, word)


class RowsTest(unittest.TestCase):
    def test_examples(self):
        rows = [[1, 2, 3], [1, 3, 2], [2, 1, 3], [3, 1, 2]]
        self.assertEqual([place_of_row("s2", row) for row in rows], [0, 1, 2, 3])
        self.assertEqual([row_with_number("s2", 3, number) for number in range(4)], rows)
        self.assertEqual(row_behind("s2", [2, 1, 3]), [3, 1, 2])
        self.assertIsNone(row_behind("s2", [3, 1, 2]))

    def test_against_the_moves(self):
        for text in YARDS:
            yard = Yard(text)
            for count in range(5):
                rows = sorted([row for row in rows_with(count) if sorted_by_moves(yard, row)], key=code)
                self.assertEqual(count_rows(text, count), len(rows))
                for number, row in enumerate(rows):
                    self.assertEqual(place_of_row(text, row), number)
                    self.assertEqual(row_with_number(text, count, number), row)
                for number in (len(rows), HUGE):
                    with self.assertRaises(NoRow):
                        row_with_number(text, count, number)
                for row in rows_with(count):
                    behind = [other for other in rows if code(other) > code(row)]
                    self.assertEqual(row_behind(text, row), behind[0] if behind else None)
                    if row not in rows:
                        with self.assertRaises(NoRow):
                            place_of_row(text, row)

    def test_60_wagons(self):
        for text in YARDS:
            many = count_rows(text, 60)
            self.assertEqual(many, counted(machine_of(text), 60)[60])
            for number in (0, many // 2, many - 1):
                row = row_with_number(text, 60, number)
                self.assertEqual(place_of_row(text, row), number)
                expected = row_with_number(text, 60, number + 1) if number + 1 < many else None
                self.assertEqual(row_behind(text, row), expected)
            with self.assertRaises(NoRow):
                row_with_number(text, 60, many)
        self.assertEqual(row_with_number("d4", 60, 0), list(range(1, 61)))
        self.assertEqual(count_rows("s1", 60), 1)
        self.assertEqual(count_rows("s2", 60), 2 ** 59)

    def test_rows_that_the_yard_does_not_sort(self):
        self.assertIsNone(row_behind("s1", [2, 1]))
        self.assertEqual(row_behind("s2", [1, 3, 2]), [2, 1, 3])
        self.assertEqual(row_behind("s3", [2, 3, 1]), row_of([3, 2, 1]))
        for row in ([2, 3, 1], [3, 2, 1], list(range(60, 0, -1))):
            with self.assertRaises(NoRow):
                place_of_row("s2", row)

    def test_bad_numbers(self):
        for length in NOT_LENGTHS:
            with self.assertRaises(BadNumber):
                count_rows("s2", length)
            for number in (-1, 0, HUGE):
                with self.assertRaises(BadNumber):
                    row_with_number("s2", length, number)
        for number in (-1, -HUGE):
            with self.assertRaises(BadNumber):
                row_with_number("s2", 3, number)
        self.assertEqual((count_rows("s2", 0), row_with_number("s2", 0, 0), place_of_row("s2", [])), (1, [], 0))
        self.assertIsNone(row_behind("s2", []))

    def test_not_rows(self):
        for row in NOT_ROWS:
            for function in (place_of_row, row_behind):
                with self.assertRaises(NotRow):
                    function("s2", row)

    def test_bad_yards_come_first(self):
        for text, error in BAD_YARDS:
            for length in (-1, 3, 61):
                with self.assertRaises(error):
                    count_rows(text, length)
                with self.assertRaises(error):
                    row_with_number(text, length, -1)
            for row in ([1], [1, 1]):
                for function in (place_of_row, row_behind):
                    with self.assertRaises(error):
                        function(text, row)

    def test_arguments_stay_and_results_are_new(self):
        row = [2, 1, 3]
        row_behind("s2", row).append(7)
        place_of_row("s2", row)
        self.assertEqual(row, [2, 1, 3])


if __name__ == "__main__":
    unittest.main()
