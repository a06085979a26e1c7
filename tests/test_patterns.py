import random
import unittest
from math import comb

from oracles import all_occurrences, pattern_of, rows_up_to, rows_with
from yardsort.errors import BadNumber, NotPattern, NotRow
from yardsort.patterns import (contains, first_contained, first_occurrence, occurrences, pattern_at, patterns_of)
from yardsort.rows import complement, inverse, reverse_of, without

HUGE = 10 ** 5000
NOT_ROWS = ([0], [2], [1, 1], [1, 3], list(range(1, 62)), [HUGE])
NOT_PATTERNS = ([0], [2], [1, 1], [1, 3], [1, 2, 3, 4, 5, 6, 7], [7, 6, 5, 4, 3, 2, 1], [1, 2, 3, 4, 5, 7], [HUGE],
                list(range(1, 61)), list(range(1, 62)))


def shuffled(size, seed):
    row = list(range(1, size + 1))
    random.Random(seed).shuffle(row)
    return row


class PatternAtTest(unittest.TestCase):
    def test_ordinary(self):
        row = [3, 1, 4, 2]
        self.assertEqual(pattern_at(row, [0, 2, 3]), [2, 3, 1])
        self.assertEqual(pattern_at(row, [1]), [1])
        self.assertEqual(pattern_at(row, [0, 1, 2, 3]), row)

    def test_no_places(self):
        self.assertEqual(pattern_at([], []), [])
        self.assertEqual(pattern_at([2, 1], []), [])

    def test_definition(self):
        row = shuffled(60, 1)
        source = random.Random(2)
        for size in (1, 5, 30, 60):
            places = sorted(source.sample(range(60), size))
            self.assertEqual(pattern_at(row, places), pattern_of([row[place] for place in places]))

    def test_wrong_places(self):
        for places in ([-1], [4], [0, 0], [1, 0], [0, 2, 1], [0, 1, 4], [-1, 0], [3, 3], [HUGE], [-HUGE], [0, 1, 2, 3, 3]):
            with self.assertRaises(BadNumber):
                pattern_at([3, 1, 4, 2], places)
        with self.assertRaises(BadNumber):
            pattern_at([], [0])

    def test_no_row_comes_first(self):
        for numbers in NOT_ROWS:
            for places in ([], [0], [99]):
                with self.assertRaises(NotRow):
                    pattern_at(numbers, places)


class OccurrenceTest(unittest.TestCase):
    def check(self, row, pattern):
        found = all_occurrences(row, pattern)
        self.assertEqual(first_occurrence(row, pattern), found[0] if found else None, (row, pattern))
        self.assertEqual(occurrences(row, pattern), len(found), (row, pattern))
        self.assertIs(contains(row, pattern), bool(found), (row, pattern))

    def test_examples(self):
        self.assertEqual(first_occurrence([3, 1, 4, 2], [2, 3, 1]), [0, 2, 3])
        self.assertEqual(occurrences([3, 1, 4, 2], [2, 1]), 3)
        self.assertEqual(first_occurrence([2, 3, 1], [2, 3, 1]), [0, 1, 2])

    def test_all_short_rows_and_patterns(self):
        for row in rows_up_to(5):
            for pattern in rows_up_to(4):
                self.check(row, pattern)

    def test_patterns_of_five_and_six_wagons(self):
        source = random.Random(3)
        for size in (5, 6):
            patterns = rows_with(size)
            for count in (size - 1, size, 8, 10):
                for _ in range(25):
                    row = shuffled(count, source.random())
                    self.check(row, source.choice(patterns))
                    places = sorted(source.sample(range(count), min(size, count)))
                    self.check(row, pattern_of([row[place] for place in places]))

    def test_every_row_contains_the_empty_row_once(self):
        for row in ([], [1], shuffled(60, 4)):
            self.assertEqual(first_occurrence(row, []), [])
            self.assertEqual(occurrences(row, []), 1)
            self.assertIs(contains(row, []), True)

    def test_60_wagons(self):
        ascending = list(range(1, 61))
        for size in (1, 2, 3, 4):
            pattern = list(range(1, size + 1))
            self.assertEqual(occurrences(ascending, pattern), comb(60, size))
            self.assertEqual(first_occurrence(ascending, pattern), list(range(size)))
            self.assertEqual(first_occurrence(ascending[::-1], pattern[::-1]), list(range(size)))
        self.assertEqual(first_occurrence(ascending, [1, 2, 3, 4, 5, 6]), [0, 1, 2, 3, 4, 5])
        self.assertIsNone(first_occurrence(ascending, [1, 2, 3, 4, 6, 5]))
        self.assertEqual(occurrences(list(range(1, 25)), [1, 2, 3, 4, 5, 6]), comb(24, 6))
        row = ascending[1:] + [1]
        self.assertEqual(first_occurrence(row, [2, 3, 1]), [0, 1, 59])
        self.assertEqual(occurrences(row, [2, 1]), 59)

    def test_the_first_occurrence_is_the_least_list(self):
        self.assertEqual(first_occurrence([2, 5, 1, 4, 3], [2, 1]), [0, 2])
        self.assertEqual(first_occurrence([4, 5, 1, 2, 3], [1, 2]), [0, 1])
        self.assertEqual(first_occurrence([4, 1, 2, 3], [1, 2, 3]), [1, 2, 3])

    def test_six_wagons_are_a_pattern_and_seven_are_not(self):
        row = list(range(1, 9))
        self.assertIs(contains(row, [1, 2, 3, 4, 5, 6]), True)
        self.assertEqual(occurrences(row, [1, 2, 3, 4, 5, 6]), 28)
        for function in (contains, occurrences, first_occurrence):
            with self.assertRaises(NotPattern):
                function(row, [1, 2, 3, 4, 5, 6, 7])

    def test_wrong_patterns(self):
        for function in (contains, occurrences, first_occurrence):
            for pattern in NOT_PATTERNS:
                for row in ([], [1], [3, 1, 2]):
                    with self.assertRaises(NotPattern):
                        function(row, pattern)

    def test_no_row_comes_first(self):
        for function in (contains, occurrences, first_occurrence):
            for numbers in NOT_ROWS:
                for pattern in ([], [1]) + NOT_PATTERNS:
                    with self.assertRaises(NotRow):
                        function(numbers, pattern)


class PatternsOfTest(unittest.TestCase):
    def test_example(self):
        self.assertEqual(patterns_of([3, 1, 4, 2], 3), [[1, 3, 2], [2, 1, 3], [2, 3, 1], [3, 1, 2]])

    def test_all_sizes(self):
        for row in rows_up_to(5) + [shuffled(9, 5), shuffled(12, 6)]:
            for size in range(5):
                expected = [pattern for pattern in rows_with(size) if all_occurrences(row, pattern)]
                self.assertEqual(patterns_of(row, size), expected)

    def test_edges(self):
        self.assertEqual(patterns_of([], 0), [[]])
        self.assertEqual(patterns_of([], 1), [])
        self.assertEqual(patterns_of([2, 1], 3), [])
        self.assertEqual(patterns_of(list(range(1, 61)), 4), [[1, 2, 3, 4]])

    def test_bad_number(self):
        for size in (-1, 5, 6, HUGE, -HUGE):
            for row in ([], [3, 1, 2]):
                with self.assertRaises(BadNumber):
                    patterns_of(row, size)

    def test_no_row_comes_first(self):
        for numbers in NOT_ROWS:
            for size in (0, -1, 5):
                with self.assertRaises(NotRow):
                    patterns_of(numbers, size)


class FirstContainedTest(unittest.TestCase):
    def test_ordinary(self):
        row = [3, 1, 4, 2]
        self.assertEqual(first_contained(row, [[3, 2, 1], [2, 3, 1], [1]]), 1)
        self.assertEqual(first_contained(row, [[1], [2, 3, 1]]), 0)
        self.assertIsNone(first_contained(row, [[3, 2, 1], [1, 2, 3]]))
        self.assertIsNone(first_contained(row, []))
        self.assertEqual(first_contained([], [[1], []]), 1)

    def test_definition(self):
        source = random.Random(7)
        for row in rows_with(5):
            patterns = [source.choice(rows_with(4)) for _ in range(3)] + [source.choice(rows_with(3))]
            contained = [at for at, pattern in enumerate(patterns) if all_occurrences(row, pattern)]
            self.assertEqual(first_contained(row, patterns), contained[0] if contained else None)

    def test_wrong_pattern_anywhere(self):
        for pattern in NOT_PATTERNS:
            for patterns in ([pattern], [[1], pattern], [pattern, [1]], [[2, 1], [1], [1, 2], pattern]):
                with self.assertRaises(NotPattern):
                    first_contained([3, 1, 2], patterns)

    def test_no_row_comes_first(self):
        for numbers in NOT_ROWS:
            for patterns in ([], [[1]], [[2]], [[1], [0]]):
                with self.assertRaises(NotRow):
                    first_contained(numbers, patterns)


class FactsTest(unittest.TestCase):
    def test_symmetries_keep_the_number_of_occurrences(self):
        for row in rows_with(5) + [shuffled(12, 8)]:
            for pattern in rows_up_to(3) + [[2, 4, 1, 3], [4, 2, 3, 1]]:
                many = occurrences(row, pattern)
                for function in (inverse, reverse_of, complement):
                    self.assertEqual(occurrences(function(row), function(pattern)), many)

    def test_rows_without_a_wagon(self):
        source = random.Random(9)
        for row in rows_up_to(5)[1:] + [shuffled(9, 10)]:
            shorter = [without(row, wagon) for wagon in row]
            if len(row) < 7:
                self.assertTrue(all(contains(row, one) for one in shorter))
            for pattern in source.sample(rows_up_to(4), 12):
                if len(pattern) < len(row):
                    self.assertEqual(contains(row, pattern), any(contains(one, pattern) for one in shorter))

    def test_containing_goes_on(self):
        for row in rows_with(5)[::7]:
            for second in patterns_of(row, 4):
                for third in patterns_of(second, 3):
                    self.assertIs(contains(row, third), True)


class ArgumentsTest(unittest.TestCase):
    def test_arguments_stay_and_results_are_new(self):
        row = [3, 1, 4, 2]
        pattern = [2, 1]
        places = [0, 2, 3]
        pattern_at(row, places).append(99)
        whole = pattern_at(row, [0, 1, 2, 3])
        whole.append(99)
        first_occurrence(row, pattern).append(99)
        occurrences(row, pattern)
        contains(row, pattern)
        listed = patterns_of(row, 4)
        listed[0].append(99)
        patterns = [[3, 2, 1], [2, 1]]
        first_contained(row, patterns)
        self.assertEqual((row, pattern, places, patterns), ([3, 1, 4, 2], [2, 1], [0, 2, 3], [[3, 2, 1], [2, 1]]))
        self.assertEqual(patterns_of(row, 4), [row])


if __name__ == "__main__":
    unittest.main()
