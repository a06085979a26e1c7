import random
import unittest
from itertools import combinations

from oracles import all_occurrences, fault_of, pattern_of, rows_up_to, rows_with, sortable_row, sorted_by_moves
from yardsort.errors import NotKnown, NotRow, NotYard
from yardsort.known import least_rows
from yardsort.replay import sorts
from yardsort.rows import skew_sum
from yardsort.rules import Shown, sort_by_rule
from yardsort.yards import Yard

NOT_ROWS = ([0], [2], [1, 1], [1, 3], list(range(1, 62)))
SMALL = ("s1", "q", "q3", "d1", "i1", "o1", "s", "s2", "s3", "s4", "i", "o", "[q q]", "[q q q]", "[q q q q q q q q]", "(q s)",
         "(s q)", "(q s2)", "(s3 q)", "(q i)", "(i q)", "(q o)", "(o q)", "(q q)", "(q1 q)", "(q d1)", "(o1 q)", "(q [q q])",
         "([q q q] q)", "(q (q s))", "((s q) q)", "(q (o q))", "((q i) q)", "(q ((q s2) q))")
DEEP = ("(q (q (q (q (q (q (q s)))))))", "(((((((i q) q) q) q) q) q) q)", "(q ((q ((q (o q)) q)) q))",
        "(q ([q q q q q q] q))", "((q [q q q q q]) (q s1))")
HUGE = 10 ** 5000


class SortByRuleTest(unittest.TestCase):
    def check_shown(self, text, row, answer):
        """The first least row that the row contains, and its first occurrence."""
        self.assertIsInstance(answer, Shown)
        contained = [which for which, least in enumerate(least_rows(text)) if all_occurrences(row, least)]
        self.assertEqual(answer.which, contained[0], (text, row))
        self.assertEqual(answer.places, all_occurrences(row, least_rows(text)[answer.which])[0], (text, row))

    def check(self, text, row):
        answer = sort_by_rule(text, row)
        if isinstance(answer, Shown):
            self.check_shown(text, row, answer)
            return False
        self.assertIs(sorts(Yard(text), row, answer), True, (text, row))
        self.assertLessEqual(len(answer), 600)
        self.assertFalse(any(all_occurrences(row, least) for least in least_rows(text)))
        return True

    def test_the_example(self):
        answer = sort_by_rule("s", [2, 3, 1])
        self.assertEqual((answer.which, answer.places), (0, [0, 1, 2]))
        self.assertEqual(vars(answer), {"which": 0, "places": [0, 1, 2]})

    def test_all_small_rows(self):
        for text in SMALL:
            for row in rows_up_to(5):
                self.check(text, row)

    def test_as_moves_sort(self):
        for text in ("s1", "q2", "s", "s2", "s3", "i", "o", "[q q]", "[q q q]", "(q s2)", "(o q)"):
            for row in rows_up_to(4):
                self.assertEqual(self.check(text, row), sorted_by_moves(Yard(text), row), (text, row))

    def test_rows_of_6_wagons(self):
        for text in ("s", "s3", "i", "o", "[q q q]", "(q (i q))"):
            for row in rows_with(6)[::7]:
                self.check(text, row)

    def test_no_wagon_and_one_wagon(self):
        for text in SMALL + DEEP[:4]:
            self.assertEqual(sort_by_rule(text, []), [])
            self.assertTrue(self.check(text, [1]))

    def test_60_wagons_that_are_sorted(self):
        source = random.Random(1)
        for text in SMALL + DEEP[:4] + ("s5", "s6", "[q q q q q]"):
            yard = Yard(text)
            for _ in range(4):
                row = sortable_row(yard, 60, source)
                answer = sort_by_rule(text, row)
                self.assertIs(sorts(yard, row, answer), True, text)
                self.assertLessEqual(len(answer), 600)

    def test_near_the_limit_of_600_moves(self):
        for text, many in ((DEEP[0], 540), (DEEP[1], 540), (DEEP[2], 480), ("s", 120), ("(q s)", 180)):
            row = sortable_row(Yard(text), 60, random.Random(text))
            self.assertEqual(len(sort_by_rule(text, row)), many, text)

    def test_as_many_wagons_as_a_bound_allows(self):
        for bound in range(1, 7):
            row = [wagon + at for at in range(0, 60, bound) for wagon in range(bound, 0, -1)]
            self.assertIs(sorts(Yard(f"s{bound}"), row, sort_by_rule(f"s{bound}", row)), True)
            self.assertIs(sorts(Yard(f"(q s{bound})"), row, sort_by_rule(f"(q s{bound})", row)), True)

    def test_60_wagons_that_are_not_sorted(self):
        source = random.Random(2)
        for text in ("s", "s2", "i", "o", "[q q]", "(q s2)", "q"):
            for _ in range(2):
                row = list(range(1, 61))
                source.shuffle(row)
                answer = sort_by_rule(text, row)
                least = least_rows(text)[0]
                first = next(list(places) for places in combinations(range(60), len(least))
                             if pattern_of([row[place] for place in places]) == least)
                self.assertEqual((answer.which, answer.places), (0, first))

    def test_a_least_row_late_in_a_long_row(self):
        for text in ("s", "i", "o", "[q q q]", "s2", "q"):
            for which, least in enumerate(least_rows(text)):
                size = 60 - len(least)
                row = list(range(1, size + 1)) + [wagon + size for wagon in least]
                answer = sort_by_rule(text, row)
                self.assertEqual((answer.which, answer.places), (which, list(range(size, 60))), text)

    def test_rows_that_contain_several_least_rows(self):
        for text, one, other in (("s2", [2, 3, 1], [3, 2, 1]), ("i", [3, 2, 4, 1], [4, 2, 3, 1]),
                                 ("o", [2, 4, 3, 1], [4, 2, 3, 1]), ("s4", [2, 3, 1], [5, 4, 3, 2, 1])):
            for row in (one + [wagon + len(one) for wagon in other], other + [wagon + len(other) for wagon in one],
                        skew_sum(one, other), skew_sum(other, one)):
                self.check_shown(text, row, sort_by_rule(text, row))
                self.assertEqual(sort_by_rule(text, row).which, 0)
        self.assertEqual(sort_by_rule("s2", [3, 2, 1]).which, 1)
        self.assertEqual(sort_by_rule("i", [4, 2, 3, 1]).which, 1)
        self.assertEqual(sort_by_rule("(q (o q))", [5, 1, 3, 4, 2]).which, 1)

    def test_long_falling_rows(self):
        for text, size in (("s6", 7), ("[q q q q q q q q]", 9), ("[q q q q q]", 6), ("(q s5)", 6)):
            which = len(least_rows(text)) - 1
            for lead in (0, 1, 3):
                row = list(range(1, lead + 1)) + [lead + wagon for wagon in range(size, 0, -1)]
                answer = sort_by_rule(text, row)
                self.assertEqual((answer.which, answer.places), (which, list(range(lead, lead + size))), text)
            self.assertTrue(sorts(Yard(text), list(range(size - 1, 0, -1)), sort_by_rule(text, list(range(size - 1, 0, -1)))))
        source = random.Random(3)
        for _ in range(30):
            row = list(range(1, 11))
            source.shuffle(row)
            self.check("[q q q]", row)
            self.check("[q q q q]", row)
            self.check("q", row)

    def test_the_first_occurrence_of_a_falling_row(self):
        row = [2, 5, 1, 4, 3]
        self.assertEqual(sort_by_rule("q", row).places, [0, 2])
        self.assertEqual(sort_by_rule("[q q]", row).places, [1, 3, 4])
        self.assertEqual(sort_by_rule("[q q]", [4, 1, 5, 3, 2]).places, [0, 3, 4])

    def test_errors_in_order(self):
        for text in ("", "(s)", "s7", "(q s q", "[q q q q q q q q q]"):
            for row in ([1], [1, 1]):
                with self.assertRaises(NotYard) as raised:
                    sort_by_rule(text, row)
                self.assertEqual(raised.exception.at, fault_of(text))
        for text in ("d", "i2", "[s q]", "(s s)", "(q s q)"):
            for row in ([1], [1, 1]):
                with self.assertRaises(NotKnown):
                    sort_by_rule(text, row)
        for row in NOT_ROWS + ([HUGE],):
            for text in ("s", "[q q]", "(q i)"):
                with self.assertRaises(NotRow):
                    sort_by_rule(text, row)

    def test_arguments_stay(self):
        row = [3, 1, 2]
        sort_by_rule("s", row).clear()
        sort_by_rule("q", row).places.clear()
        self.assertEqual(row, [3, 1, 2])
        self.assertEqual(sort_by_rule("q", row).places, [0, 1])


if __name__ == "__main__":
    unittest.main()
