import unittest

from oracles import first_way, rows_up_to, rows_with, turn_row
from yardsort.errors import BadNumber, NotRow, TooLarge
from yardsort.replay import sorts, turned_row, without_wagon
from yardsort.rows import direct_sum, without
from yardsort.search import can_sort, fewest, is_live, solve, sorted_rows
from yardsort.patterns import patterns_of
from yardsort.yards import Yard, turned

HUGE = 10 ** 5000
NOT_ROWS = ([0], [2], [1, 1], [1, 3], list(range(1, 62)))
IN = (-1, 0, 0, 1)
OUT = (0, 1, -1, 0)
YARDS = ("s", "q", "d", "i", "o", "s1", "s2", "q3", "d2", "(s2 q)", "[s1 q]", "(i o)", "(s s)", "[s q]", "[q q]",
         "[(s q1) o1]", "(i2 [s q1] o)", "([q1 i] [s o2])", "[d1 d1]")
EIGHT = "(d d d d d d d d)"
# Yards and rows for which the search meets the sorted situation as the 4000th or as the 4001st one.
JUST_MET = (("[s3 q]", [1, 2, 3, 13, 5, 6, 7, 8, 9, 10, 11, 12, 4]), ("(q [s q])", [1, 2, 3, 4, 7, 6, 5, 8, 9]))
JUST_NOT_MET = (("[s q]", [3, 2, 1, 7, 6, 8, 9, 5, 4, 10]), ("[q q q]", [5, 7, 3, 4, 1, 6, 2]))
# A yard and a row for which the search meets 4000 situations, none of them sorted.
JUST_ENDED = (("d", [1, 2, 3, 6, 11, 4, 7, 9, 10, 8, 5]), ("o", [1, 2, 3, 11, 4, 6, 7, 8, 9, 10, 5]))
# A yard and a row for which moves lead to 4001 live situations, none of them sorted.
JUST_TOO_MANY = (("[s s]", [8, 5, 3, 2, 9, 1, 4, 6, 10, 7]), ("o", [1, 2, 3, 4, 11, 6, 8, 7, 9, 10, 5]))


class LiveTest(unittest.TestCase):
    def test_live(self):
        for gone in ((), (1,), (1, 2), (1, 2, 3), tuple(range(1, 61))):
            self.assertIs(is_live((len(gone), ((),), gone)), True)

    def test_not_live(self):
        for gone in ((2,), (0,), (-1,), (2, 1), (1, 3), (1, 1), (1, 2, 4), (1, 2, 2), (0, 1), (HUGE,), (3, 1, 2)):
            self.assertIs(is_live((len(gone), ((),), gone)), False)

    def test_only_the_third_entry_matters(self):
        self.assertIs(is_live((HUGE, ((5, 5), (-1,)), (1, 2))), True)
        self.assertIs(is_live((-3, (), (2, 1))), False)

    def test_no_live_situation_behind_another(self):
        self.assertIs(is_live((2, ((),), (2, 1))), False)


class SolveTest(unittest.TestCase):
    def test_examples(self):
        self.assertEqual(solve(Yard("s"), [2, 1]), [IN, IN, OUT, OUT])
        self.assertIsNone(solve(Yard("s"), [2, 3, 1]))
        self.assertIs(can_sort(Yard("s"), [2, 3, 1]), False)
        self.assertIsNone(fewest(Yard("s"), [2, 3, 1]))

    def test_no_wagons(self):
        for text in YARDS + (EIGHT,):
            self.assertEqual(solve(Yard(text), []), [])
            self.assertEqual(fewest(Yard(text), []), 0)
            self.assertIs(can_sort(Yard(text), []), True)

    def test_the_first_of_the_ways_with_the_fewest_moves(self):
        for text in YARDS:
            yard = Yard(text)
            for row in rows_up_to(3) + rows_with(4)[::3]:
                way = first_way(yard, row)
                self.assertEqual(solve(yard, row), way, (text, row))
                self.assertEqual(fewest(yard, row), None if way is None else len(way))
                self.assertIs(can_sort(yard, row), way is not None)

    def test_the_lesser_move_decides(self):
        self.assertEqual(solve(Yard("d"), [1]), [(-1, 0, 0, 0), (0, 0, -1, 0)])
        self.assertEqual(solve(Yard("[q s]"), [1]), [(-1, 0, 0, 1), (0, 0, -1, 0)])
        self.assertEqual(solve(Yard("[(s s) s]"), [1]), [(-1, 0, 2, 1), (2, 1, -1, 0)])
        self.assertEqual(solve(Yard("d"), [2, 1]), [(-1, 0, 0, 0), (-1, 0, 0, 0), (0, 0, -1, 0), (0, 0, -1, 0)])

    def test_bounds(self):
        for bound in range(1, 7):
            down = list(range(bound, 0, -1))
            self.assertIs(can_sort(Yard(f"s{bound}"), down), True)
            self.assertIs(can_sort(Yard(f"s{bound}"), [bound + 1] + down), False)
            self.assertIs(can_sort(Yard("s"), [bound + 1] + down), True)

    def test_60_wagons(self):
        row = list(range(60, 0, -1))
        self.assertEqual(solve(Yard("s"), row), [IN] * 60 + [OUT] * 60)
        self.assertEqual(fewest(Yard("q1"), row[::-1]), 120)

    def test_no_row(self):
        for numbers in NOT_ROWS:
            for function in (solve, fewest, can_sort):
                for text in ("s", EIGHT):
                    with self.assertRaises(NotRow):
                        function(Yard(text), numbers)

    def test_arguments_stay(self):
        row, yard = [2, 1], Yard("s")
        solve(yard, row).clear()
        self.assertEqual(solve(yard, row), [IN, IN, OUT, OUT])
        self.assertEqual((row, yard.links), ([2, 1], [(-1, 0), (0, -1)]))


class TooLargeTest(unittest.TestCase):
    def test_the_4000th_situation_is_the_sorted_one(self):
        for text, row in JUST_MET:
            yard = Yard(text)
            way = solve(yard, row)
            self.assertIs(sorts(yard, row, way), True)
            self.assertEqual(fewest(yard, row), len(way))
            self.assertIs(can_sort(yard, row), True)

    def test_the_4001st_situation_would_be_the_sorted_one(self):
        for text, row in JUST_NOT_MET:
            for function in (solve, fewest, can_sort):
                with self.assertRaises(TooLarge):
                    function(Yard(text), row)

    def test_4000_situations_without_the_sorted_one(self):
        for text, row in JUST_ENDED:
            self.assertIsNone(solve(Yard(text), row))
            self.assertIsNone(fewest(Yard(text), row))
            self.assertIs(can_sort(Yard(text), row), False)

    def test_4001_situations_without_the_sorted_one(self):
        for text, row in JUST_TOO_MANY:
            for function in (solve, fewest, can_sort):
                with self.assertRaises(TooLarge):
                    function(Yard(text), row)

    def test_many_more(self):
        for function in (solve, fewest, can_sort):
            with self.assertRaises(TooLarge):
                function(Yard(EIGHT), [4, 3, 2, 1])
            with self.assertRaises(TooLarge):
                function(Yard("[s s s]"), list(range(30, 0, -1)))


class SortedRowsTest(unittest.TestCase):
    def test_ordinary(self):
        self.assertEqual(sorted_rows(Yard("s1"), 3), [[1, 2, 3]])
        self.assertEqual(sorted_rows(Yard("s2"), 3), [[1, 2, 3], [1, 3, 2], [2, 1, 3], [3, 1, 2]])
        self.assertEqual(sorted_rows(Yard("s"), 3), [[1, 2, 3], [1, 3, 2], [2, 1, 3], [3, 1, 2], [3, 2, 1]])
        self.assertEqual([len(sorted_rows(Yard(text), 4)) for text in ("s", "s2", "o", "[q q q]")], [14, 8, 22, 23])

    def test_all_sizes(self):
        for text in YARDS:
            yard = Yard(text)
            for size in range(4):
                expected = [row for row in rows_with(size) if first_way(yard, row) is not None]
                self.assertEqual(sorted_rows(yard, size), expected)

    def test_no_wagons(self):
        self.assertEqual(sorted_rows(Yard("q1"), 0), [[]])

    def test_bad_number_comes_first(self):
        for size in (-1, 5, 6, HUGE, -HUGE):
            for text in ("s", EIGHT):
                with self.assertRaises(BadNumber):
                    sorted_rows(Yard(text), size)

    def test_too_large(self):
        with self.assertRaises(TooLarge):
            sorted_rows(Yard(EIGHT), 4)
        self.assertEqual(sorted_rows(Yard(EIGHT), 1), [[1]])


class FactsTest(unittest.TestCase):
    def test_rows_without_a_wagon_have_shorter_ways(self):
        for text in YARDS:
            yard = Yard(text)
            for row in sorted_rows(yard, 3):
                way = solve(yard, row)
                for wagon in row:
                    less = solve(yard, without(row, wagon))
                    self.assertLess(len(less), len(way))
                    self.assertLessEqual(len(less), len(without_wagon(yard, row, way, wagon)))

    def test_turned_yards_sort_turned_rows(self):
        for text in YARDS:
            yard, other = Yard(text), Yard(turned(text))
            for row in rows_up_to(3) + rows_with(4)[::4]:
                self.assertEqual(turned_row(row), turn_row(row))
                self.assertEqual(fewest(other, turn_row(row)), fewest(yard, row))

    def test_every_pattern_of_a_sorted_row_is_sorted(self):
        for text in ("s", "s2", "i", "(s2 q)", "[q q]", "[d1 d1]"):
            yard = Yard(text)
            for row in sorted_rows(yard, 4):
                for size in range(4):
                    for pattern in patterns_of(row, size):
                        self.assertIs(can_sort(yard, pattern), True)

    def test_a_direct_sum_is_sorted_if_both_rows_are(self):
        rows = rows_up_to(2) + [[2, 3, 1], [3, 2, 1], [1, 3, 2]]
        for text in ("s", "s2", "q", "i", "(s2 q)", "[s1 q]", "[q q]"):
            yard = Yard(text)
            for one in rows:
                for other in rows:
                    both = can_sort(yard, one) and can_sort(yard, other)
                    self.assertIs(can_sort(yard, direct_sum(one, other)), both, (text, one, other))


if __name__ == "__main__":
    unittest.main()
