import inspect
import random
import unittest

from oracles import code, rows_up_to, rows_with
from yardsort.errors import BadNumber, NotCode, NotRow, TooLarge
from yardsort.rows import (all_rows, code_of, comes_before, complement, direct_sum, inverse, is_row, read_row,
                           reverse_of, row_of, row_text, skew_sum, without)

HUGE = 10 ** 5000
NOT_ROWS = ([0], [2], [1, 1], [0, 1], [1, 3], [2, 3], [-1, 1], [3, 1, 2, 2], [1, HUGE], [-HUGE], list(range(60)),
            list(range(1, 62)), list(range(61, 0, -1)), [1] * 60, list(range(1, 60)) + [59])


def long_rows():
    source = random.Random(5)
    rows = [list(range(1, 61)), list(range(60, 0, -1))]
    for size in (8, 20, 59, 60):
        row = list(range(1, size + 1))
        source.shuffle(row)
        rows.append(row)
    return rows


class IsRowTest(unittest.TestCase):
    def test_rows(self):
        for row in rows_up_to(4) + long_rows():
            self.assertIs(is_row(row), True)

    def test_other_lists(self):
        for numbers in NOT_ROWS:
            self.assertIs(is_row(numbers), False)

    def test_edges_of_the_number_of_wagons(self):
        self.assertIs(is_row([]), True)
        self.assertIs(is_row(list(range(1, 61))), True)
        self.assertIs(is_row(list(range(1, 62))), False)

    def test_every_list_of_small_numbers(self):
        for a in range(-1, 5):
            for b in range(-1, 5):
                for c in range(-1, 5):
                    self.assertIs(is_row([a, b, c]), {a, b, c} == {1, 2, 3})


class TextTest(unittest.TestCase):
    def test_text(self):
        self.assertEqual(row_text([]), "")
        self.assertEqual(row_text([1]), "1")
        self.assertEqual(row_text([3, 1, 4, 2]), "3 1 4 2")
        self.assertEqual(row_text(list(range(11, 0, -1))), "11 10 9 8 7 6 5 4 3 2 1")

    def test_read(self):
        self.assertEqual(read_row(""), [])
        self.assertEqual(read_row("1"), [1])
        self.assertEqual(read_row("3 1 4 2"), [3, 1, 4, 2])
        self.assertEqual(read_row("2 10 1 3 4 5 6 7 8 9"), [2, 10, 1, 3, 4, 5, 6, 7, 8, 9])

    def test_there_and_back(self):
        for row in rows_up_to(4) + long_rows():
            self.assertEqual(row_text(row), " ".join(map(str, row)))
            self.assertEqual(read_row(row_text(row)), row)

    def test_other_texts(self):
        texts = ("01", "1  2", " ", " 1", "1 ", "1 2 ", "1,2", "1\t2", "1\n2", "1\n", "+1", "-1", "1 -2", "0", "0 1",
                 "2", "1 1", "1 3", "1_0", "1.0", "a", "one", "1 02", "\u0661", "\u00b9", "\uff11", "1\u00a02",
                 "1\u20032", "1" * 5000, "1 " + "2" * 5000, " ".join(map(str, range(1, 62))))
        for text in texts:
            with self.assertRaises(NotRow, msg=repr(text[:20])):
                read_row(text)

    def test_text_of_no_row(self):
        for numbers in NOT_ROWS:
            with self.assertRaises(NotRow):
                row_text(numbers)


class CodeTest(unittest.TestCase):
    def test_example(self):
        self.assertEqual(code_of([3, 1, 4, 2]), [2, 3, 1, 1])
        self.assertEqual(row_of([2, 3, 1, 1]), [3, 1, 4, 2])

    def test_edges(self):
        self.assertEqual(code_of([]), [])
        self.assertEqual(row_of([]), [])
        self.assertEqual(code_of(list(range(1, 61))), [1] * 60)
        self.assertEqual(code_of(list(range(60, 0, -1))), list(range(60, 0, -1)))
        self.assertEqual(row_of([1] * 60), list(range(1, 61)))
        self.assertEqual(row_of(list(range(60, 0, -1))), list(range(60, 0, -1)))

    def test_definition(self):
        for row in rows_up_to(5) + long_rows():
            self.assertEqual(code_of(row), code(row))
            self.assertEqual(row_of(code(row)), row)

    def test_each_code_is_that_of_one_row(self):
        codes = [[a, b, c, 1] for a in range(1, 5) for b in range(1, 4) for c in range(1, 3)]
        rows = [row_of(one) for one in codes]
        self.assertEqual(sorted(rows), rows_with(4))
        self.assertEqual([code_of(row) for row in rows], codes)

    def test_other_lists(self):
        for numbers in ([0], [2], [-1], [1, 2], [3, 1], [0, 1], [1, 0], [4, 1, 1], [1, 3, 1], [1, 1, 2], [HUGE, 1],
                        [-HUGE], [1] * 61, list(range(61, 0, -1)), [61] + [1] * 59):
            with self.assertRaises(NotCode):
                row_of(numbers)

    def test_code_of_no_row(self):
        for numbers in NOT_ROWS:
            with self.assertRaises(NotRow):
                code_of(numbers)

    def test_code_without_a_wagon(self):
        for row in rows_up_to(5)[1:] + long_rows():
            for wagon in row[:6]:
                expected = []
                for other in range(1, len(row) + 1):
                    smaller = other < wagon and row.index(other) > row.index(wagon)
                    if other != wagon:
                        expected.append(code(row)[other - 1] - (1 if smaller else 0))
                self.assertEqual(code_of(without(row, wagon)), expected)


class SymmetryTest(unittest.TestCase):
    def test_examples(self):
        self.assertEqual(inverse([3, 1, 2]), [2, 3, 1])
        self.assertEqual(reverse_of([3, 1, 2]), [2, 1, 3])
        self.assertEqual(complement([3, 1, 2]), [1, 3, 2])

    def test_empty_row(self):
        for function in (inverse, reverse_of, complement):
            self.assertEqual(function([]), [])

    def test_definitions(self):
        for row in rows_up_to(5) + long_rows():
            size = len(row)
            self.assertEqual(inverse(row), [row.index(wagon) + 1 for wagon in range(1, size + 1)])
            self.assertEqual(reverse_of(row), [row[size - 1 - place] for place in range(size)])
            self.assertEqual(complement(row), [size + 1 - wagon for wagon in row])

    def test_no_row(self):
        for function in (inverse, reverse_of, complement):
            for numbers in NOT_ROWS:
                with self.assertRaises(NotRow):
                    function(numbers)


class SumTest(unittest.TestCase):
    def test_examples(self):
        self.assertEqual(direct_sum([2, 1], [1]), [2, 1, 3])
        self.assertEqual(skew_sum([2, 1], [1]), [3, 2, 1])
        self.assertEqual(direct_sum([1], [2, 3, 1]), [1, 3, 4, 2])
        self.assertEqual(skew_sum([1], [2, 3, 1]), [4, 2, 3, 1])

    def test_definitions(self):
        for one in rows_up_to(3):
            for other in rows_up_to(3):
                self.assertEqual(direct_sum(one, other), one + [wagon + len(one) for wagon in other])
                self.assertEqual(skew_sum(one, other), [wagon + len(other) for wagon in one] + other)

    def test_at_most_60_wagons(self):
        most = list(range(1, 61))
        for function in (direct_sum, skew_sum):
            self.assertEqual(function(most, []), most)
            self.assertEqual(function([], most), most)
            self.assertEqual(len(function(most[:20], most[:40])), 60)
            for one, other in ((most, [1]), ([1], most), (most[:31], most[:30]), (most, most)):
                with self.assertRaises(TooLarge):
                    function(one, other)

    def test_no_row_before_too_large(self):
        most = list(range(1, 61))
        for function in (direct_sum, skew_sum):
            for one, other in (([2], most), (most, [2]), ([0], [1]), ([1], [0]), ([0], [0]), (most + [61], most),
                               ([], most + [61]), (most + [61], [])):
                with self.assertRaises(NotRow):
                    function(one, other)


class WithoutTest(unittest.TestCase):
    def test_examples(self):
        self.assertEqual(without([3, 1, 4, 2], 3), [1, 3, 2])
        self.assertEqual(without([1], 1), [])
        self.assertEqual(without(list(range(1, 61)), 60), list(range(1, 60)))
        self.assertEqual(without(list(range(1, 61)), 1), list(range(1, 60)))

    def test_definition(self):
        for row in rows_up_to(5) + long_rows():
            for wagon in row:
                left = [other for other in row if other != wagon]
                self.assertEqual(without(row, wagon), [other - (other > wagon) for other in left])

    def test_no_such_wagon(self):
        for row in ([], [1], [3, 1, 2]):
            for wagon in (-1, 0, len(row) + 1, HUGE, -HUGE):
                with self.assertRaises(BadNumber):
                    without(row, wagon)

    def test_no_row_comes_first(self):
        for numbers in NOT_ROWS:
            for wagon in (1, 0, 99):
                with self.assertRaises(NotRow):
                    without(numbers, wagon)


class OrderTest(unittest.TestCase):
    def test_order(self):
        rows = rows_up_to(4)
        for at, one in enumerate(rows):
            for place, other in enumerate(rows):
                self.assertIs(comes_before(one, other), at < place)

    def test_fewer_wagons_come_first(self):
        self.assertIs(comes_before([2, 1], [1, 2, 3]), True)
        self.assertIs(comes_before([1, 2, 3], [2, 1]), False)
        self.assertIs(comes_before([], [1]), True)
        self.assertIs(comes_before(list(range(59, 0, -1)), list(range(1, 61))), True)

    def test_no_row(self):
        for numbers in NOT_ROWS:
            for one, other in ((numbers, [1]), ([1], numbers), ([], numbers), (numbers, numbers)):
                with self.assertRaises(NotRow):
                    comes_before(one, other)


class AllRowsTest(unittest.TestCase):
    def test_all_rows_in_order(self):
        self.assertEqual(list(all_rows(0)), [[]])
        self.assertEqual(list(all_rows(1)), [[1]])
        self.assertEqual(list(all_rows(2)), [[1, 2], [2, 1]])
        for count in range(8):
            self.assertEqual(list(all_rows(count)), rows_with(count))

    def test_it_is_a_generator(self):
        self.assertTrue(inspect.isgenerator(all_rows(3)))

    def test_bad_number_at_the_first_step(self):
        for count in (-1, 8, 9, -HUGE, HUGE):
            rows = all_rows(count)
            with self.assertRaises(BadNumber):
                next(rows)

    def test_rows_are_independent(self):
        kept = []
        for row in all_rows(4):
            kept.append(list(row))
            row.append(0)
            row.reverse()
        self.assertEqual(kept, rows_with(4))
        rows = list(all_rows(3))
        self.assertEqual(len({id(row) for row in rows}), 6)


class ArgumentsTest(unittest.TestCase):
    def test_arguments_stay_and_results_are_new(self):
        for row in rows_up_to(4) + long_rows()[:2]:
            kept = list(row)
            for function in (inverse, reverse_of, complement, code_of):
                first = function(row)
                first.append(99)
                second = function(row)
                self.assertEqual(row, kept)
                self.assertEqual(second, first[:-1])
            for function in (direct_sum, skew_sum):
                empty = []
                for result in (function(row, empty), function(empty, row)):
                    self.assertEqual(result, kept)
                    result.append(99)
                    self.assertEqual((row, empty), (kept, []))
            numbers = code(row)
            row_of(numbers).append(99)
            self.assertEqual(numbers, code(row))
            row_text(row)
            is_row(row)
            comes_before(row, row)
            if row:
                without(row, 1).append(99)
            self.assertEqual(row, kept)


if __name__ == "__main__":
    unittest.main()
