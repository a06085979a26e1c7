import random
import unittest

from oracles import (all_blocks, all_occurrences, decompositions, inflated, is_simple_row, is_skew, is_sum, pattern_of,
                     rows_up_to, rows_with)
from yardsort.errors import BadNumber, NoRow, NotRow, TooLarge
from yardsort.rows import complement, direct_sum, inverse, reverse_of, skew_sum
from yardsort.search import can_sort
from yardsort.simple import blocks, decomposition, inflation, is_simple, simple_rows
from yardsort.yards import Yard

HUGE = 10 ** 5000
NOT_ROWS = ([0], [2], [1, 1], [1, 3], [HUGE], list(range(1, 62)))
MIXED = [2, 5, 6, 1, 4, 3]


def is_trivial(block, row):
    return block[0] == block[1] or block[1] - block[0] + 1 == len(row)


def long_simple_row(size):
    """A simple row of an even size: 2, 4, .., and 1, 3, .. behind it."""
    return list(range(2, size + 1, 2)) + list(range(1, size, 2))


class BlocksTest(unittest.TestCase):
    def test_examples(self):
        self.assertEqual(blocks([2, 3, 1]), [(0, 1)])
        self.assertEqual(blocks([2, 4, 1, 3]), [])
        self.assertEqual(blocks(MIXED), [(1, 2), (4, 5)])
        self.assertEqual(blocks([2, 1, 3, 5, 4]), [(0, 1), (0, 2), (2, 4), (3, 4)])

    def test_few_wagons(self):
        for row in ([], [1], [1, 2], [2, 1]):
            self.assertEqual(blocks(row), [])
        self.assertEqual(blocks([1, 2, 3]), [(0, 1), (1, 2)])

    def test_against_the_definition(self):
        for row in rows_up_to(6):
            self.assertEqual(blocks(row), [block for block in all_blocks(row) if not is_trivial(block, row)], row)

    def test_60_wagons(self):
        row = list(range(1, 61))
        self.assertEqual(len(blocks(row)), 60 * 59 // 2 - 1)
        self.assertEqual(blocks(row)[0], (0, 1))
        self.assertEqual(blocks(row)[-1], (58, 59))
        self.assertEqual(blocks(long_simple_row(60)), [])

    def test_common_places_and_places_together(self):
        for row in rows_up_to(5):
            found = all_blocks(row)
            for one in found:
                for other in found:
                    if max(one[0], other[0]) <= min(one[1], other[1]):
                        self.assertIn((max(one[0], other[0]), min(one[1], other[1])), found)
                        self.assertIn((min(one[0], other[0]), max(one[1], other[1])), found)

    def test_symmetries(self):
        for row in rows_up_to(5):
            for function in (inverse, reverse_of, complement):
                self.assertEqual(len(blocks(function(row))), len(blocks(row)))
                self.assertEqual(is_simple(function(row)), is_simple(row))

    def test_no_row(self):
        for numbers in NOT_ROWS:
            for function in (blocks, is_simple, decomposition):
                with self.assertRaises(NotRow):
                    function(numbers)


class IsSimpleTest(unittest.TestCase):
    def test_examples(self):
        self.assertIs(is_simple([2, 4, 1, 3]), True)
        self.assertIs(is_simple([3, 1, 4, 2]), True)
        self.assertIs(is_simple([2, 3, 1]), False)

    def test_rows_with_trivial_blocks_that_are_too_short(self):
        for row in ([], [1], [1, 2], [2, 1]):
            self.assertIs(is_simple(row), False)

    def test_against_the_definition(self):
        for row in rows_up_to(6):
            self.assertIs(is_simple(row), is_simple_row(row), row)

    def test_60_wagons(self):
        self.assertIs(is_simple(long_simple_row(60)), True)
        self.assertIs(is_simple(list(range(60, 0, -1))), False)


class DecompositionTest(unittest.TestCase):
    def test_examples(self):
        self.assertEqual(decomposition([2, 1, 3, 5, 4]), ("sum", [1, 2, 3], [[2, 1], [1], [2, 1]]))
        self.assertEqual(decomposition([2, 3, 1]), ("skew", [2, 1], [[1, 2], [1]]))
        self.assertEqual(decomposition(MIXED), ("simple", [2, 4, 1, 3], [[1], [1, 2], [1], [2, 1]]))

    def test_no_wagon_and_one_wagon(self):
        with self.assertRaises(NoRow):
            decomposition([])
        self.assertEqual(decomposition([1]), ("one", [1], [[1]]))

    def test_the_only_one_of_the_definition(self):
        for row in rows_up_to(6)[1:]:
            self.assertEqual(decompositions(row), [decomposition(row)], row)

    def test_rows_of_7_wagons(self):
        for row in rows_with(7)[::11]:
            kind, pattern, parts = decomposition(row)
            self.assertEqual(inflated(pattern, parts), row)
            self.assertEqual(kind, "sum" if is_sum(row) else "skew" if is_skew(row) else "simple")
            if kind == "simple":
                self.assertTrue(is_simple_row(pattern))
            else:
                self.assertFalse(any(is_sum(part) if kind == "sum" else is_skew(part) for part in parts))

    def test_parts_that_are_sums(self):
        one, other = [1, 2, 3], [2, 1]
        for row, parts in ((inflated([2, 1], [one, one]), [one, one]), (inflated([3, 2, 1], [one, [1], one]), [one, [1], one])):
            self.assertEqual(decomposition(row), ("skew", pattern_of([-at for at in range(len(parts))]), parts))
        row = inflated([3, 1, 4, 2], [one, other, [1], [3, 1, 2]])
        self.assertEqual(decomposition(row), ("simple", [3, 1, 4, 2], [one, other, [1], [3, 1, 2]]))

    def test_60_wagons(self):
        row = list(range(1, 61))
        self.assertEqual(decomposition(row), ("sum", row, [[1]] * 60))
        self.assertEqual(decomposition(row[::-1]), ("skew", row[::-1], [[1]] * 60))
        self.assertEqual(decomposition(long_simple_row(60)), ("simple", long_simple_row(60), [[1]] * 60))
        parts = [[1, 2, 3]] * 20
        self.assertEqual(decomposition(inflated(long_simple_row(20), parts)), ("simple", long_simple_row(20), parts))

    def test_results_share_nothing(self):
        row = [1, 2, 3, 4]
        kind, pattern, parts = decomposition(row)
        parts[0].append(5)
        self.assertEqual(parts[1:], [[1]] * 3)
        pattern.clear()
        self.assertEqual(row, [1, 2, 3, 4])
        self.assertEqual(decomposition([1]), ("one", [1], [[1]]))
        decomposition([1])[1].append(2)
        decomposition([1])[2][0].append(2)
        self.assertEqual(decomposition([1]), ("one", [1], [[1]]))


class InflationTest(unittest.TestCase):
    def test_ordinary(self):
        self.assertEqual(inflation([2, 4, 1, 3], [[1], [1, 2], [1], [2, 1]]), MIXED)
        self.assertEqual(inflation([1], [[2, 1, 3]]), [2, 1, 3])
        self.assertEqual(inflation([3, 1, 2], [[2, 1], [1], [1, 2]]), [5, 4, 1, 2, 3])

    def test_sums(self):
        for one in rows_up_to(3)[1:]:
            for other in rows_up_to(3)[1:]:
                self.assertEqual(inflation([1, 2], [one, other]), direct_sum(one, other))
                self.assertEqual(inflation([2, 1], [one, other]), skew_sum(one, other))

    def test_against_the_definition(self):
        source = random.Random(1)
        for pattern in rows_up_to(4):
            parts = [source.choice(rows_up_to(3)[1:]) for _ in pattern]
            self.assertEqual(inflation(pattern, parts), inflated(pattern, parts))

    def test_the_empty_pattern(self):
        self.assertEqual(inflation([], []), [])

    def test_a_part_too_many_or_too_few_or_empty(self):
        for pattern, parts in (([], [[1]]), ([1], []), ([1], [[1], [1]]), ([2, 1], [[1]]), ([2, 1], [[1], []]), ([1], [[]]),
                               ([2, 1], [[1], [1], [1]]), ([], [[]]), ([1, 2], [[], [1], [1]])):
            with self.assertRaises(BadNumber):
                inflation(pattern, parts)

    def test_no_row(self):
        for numbers in NOT_ROWS:
            for pattern, parts in ((numbers, []), (numbers, [[1]]), ([1], [numbers]), ([1], [[1], numbers]),
                                   ([1, 2], [[], numbers]), ([], [numbers])):
                with self.assertRaises(NotRow):
                    inflation(pattern, parts)

    def test_60_wagons_and_61(self):
        self.assertEqual(len(inflation([2, 1], [list(range(1, 31))] * 2)), 60)
        self.assertEqual(inflation(list(range(1, 61)), [[1]] * 60), list(range(1, 61)))
        for pattern, parts in (([2, 1], [list(range(1, 31)), list(range(1, 32))]), (list(range(1, 61)), [[1]] * 59 + [[2, 1]]),
                               ([1, 2], [list(range(1, 61))] * 2)):
            with self.assertRaises(TooLarge):
                inflation(pattern, parts)
        with self.assertRaises(BadNumber):
            inflation([1], [list(range(1, 61))] * 2)

    def test_arguments_stay(self):
        pattern, parts = [2, 1], [[1, 2], [1]]
        inflation(pattern, parts).clear()
        self.assertEqual((pattern, parts), ([2, 1], [[1, 2], [1]]))
        part = [2, 1]
        inflation([1], [part]).append(3)
        self.assertEqual(part, [2, 1])


class SimpleRowsTest(unittest.TestCase):
    def test_all_sizes(self):
        for count in range(7):
            self.assertEqual(simple_rows(count), [row for row in rows_with(count) if is_simple_row(row)])
        self.assertEqual([len(simple_rows(count)) for count in range(7)], [0, 0, 0, 0, 2, 6, 46])
        self.assertEqual(simple_rows(4), [[2, 4, 1, 3], [3, 1, 4, 2]])

    def test_bad_numbers(self):
        for count in (-1, 7, HUGE, -HUGE):
            with self.assertRaises(BadNumber):
                simple_rows(count)

    def test_each_contains_a_smaller_one(self):
        for count in (5, 6):
            smaller = simple_rows(count - 1) + simple_rows(count - 2)
            for row in simple_rows(count):
                self.assertTrue(any(all_occurrences(row, other) for other in smaller))

    def test_results_share_nothing(self):
        simple_rows(4)[0].clear()
        simple_rows(4).clear()
        self.assertEqual(simple_rows(4), [[2, 4, 1, 3], [3, 1, 4, 2]])


class SumsTest(unittest.TestCase):
    def test_a_yard_sorts_a_sum_if_it_sorts_its_parts(self):
        for text in ("s", "s2", "i", "(s2 q)", "[s1 q]"):
            yard = Yard(text)
            for row in rows_with(4):
                kind, _, parts = decomposition(row)
                if kind == "sum":
                    self.assertIs(can_sort(yard, row), all(can_sort(yard, part) for part in parts), (text, row))


if __name__ == "__main__":
    unittest.main()
