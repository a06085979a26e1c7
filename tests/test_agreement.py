"""The search, the language, the comparison and the basis of a yard agree about each row."""

import unittest

from oracles import all_occurrences, pattern_of, rows_up_to, rows_with
from yardsort.basis import basis_machine, basis_rows, core, in_basis, whole_basis
from yardsort.closed import closed_list, is_closed
from yardsort.compare import compare, difference, is_pairing, pairing
from yardsort.known import is_known, known_count, least_rows
from yardsort.language import Language, machine_of, sorts_by_code
from yardsort.machines import accepts
from yardsort.patterns import contains
from yardsort.rank import count_rows, count_words, place_of_row, row_with_number
from yardsort.replay import sorts, turned_row
from yardsort.rows import code_of, without
from yardsort.rules import Shown, sort_by_rule
from yardsort.search import can_sort, fewest, solve, sorted_rows
from yardsort.series import counts, expand, series
from yardsort.yards import Yard, turned

YARDS = ("s1", "q2", "s2", "d2", "(s1 q1)", "[s1 q1]", "s3", "q3", "d3", "i3", "o3", "(s2 q1)", "[q2 q1]", "(s1 [q1 d1])",
         "[d1 (s1 s1)]", "([s1 s1] s1)")
LARGE = ("s4", "d4", "i4", "o4", "[s2 s2]", "[s2 q2]", "[s1 s1 q2]", "[s1 (s2 s1)]", "(i2 o2)")


class AgreementTest(unittest.TestCase):
    def test_a_way_or_a_closed_list(self):
        for text in YARDS + LARGE:
            yard, language, machine = Yard(text), Language(text), machine_of(text)
            for row in rows_up_to(4):
                way, situations = solve(yard, row), closed_list(yard, row)
                sorted_at_all = way is not None
                self.assertEqual(situations is None, sorted_at_all)
                self.assertTrue(sorts(yard, row, way) if sorted_at_all else is_closed(yard, row, situations))
                answers = (can_sort(yard, row), language.takes(code_of(row)), accepts(machine, code_of(row)),
                           sorts_by_code(text, row), fewest(yard, row) is not None)
                self.assertEqual(answers, (sorted_at_all,) * 5, (text, row))

    def test_rows_of_5_wagons(self):
        for text in YARDS + LARGE:
            yard, machine = Yard(text), machine_of(text)
            for row in rows_with(5)[::4]:
                self.assertEqual(can_sort(yard, row), accepts(machine, code_of(row)), (text, row))

    def test_turned_yards(self):
        for text in YARDS + LARGE:
            yard, other = Yard(text), Yard(turned(text))
            machine = machine_of(turned(text))
            for row in rows_up_to(4)[::3]:
                self.assertEqual(fewest(other, turned_row(row)), fewest(yard, row))
                self.assertEqual(accepts(machine, code_of(turned_row(row))), can_sort(yard, row))

    def test_the_basis(self):
        for text in YARDS:
            yard, basis, machine = Yard(text), whole_basis(text), basis_machine(text)
            for row in rows_up_to(4) + rows_with(5)[::9]:
                found = can_sort(yard, row)
                self.assertEqual(found, not any(contains(row, least) for least in basis))
                least = not found and all(can_sort(yard, without(row, wagon)) for wagon in row)
                self.assertEqual(row in basis, least)
                self.assertEqual(in_basis(text, row), least)
                self.assertEqual(accepts(machine, code_of(row)), least)
                self.assertEqual(row in basis_rows(text, len(row)), least)
                wagons = core(text, row)
                self.assertEqual(wagons is None, found)
                if not found:
                    self.assertIn(pattern_of([wagon for wagon in row if wagon in wagons]), basis)

    def test_the_comparison(self):
        words = {"same": (True, True), "fewer": (True, False), "more": (False, True), "apart": (False, False)}
        for one in YARDS[::2]:
            first = Yard(one)
            for other in YARDS[1::2] + ("s2", "d3"):
                second = Yard(other)
                found = difference(one, other)
                answer = words[compare(one, other)]
                self.assertEqual(found is None, answer == (True, True))
                for row in rows_up_to(3) if found is None else rows_up_to(len(found[0]) - 1):
                    self.assertEqual(can_sort(first, row), can_sort(second, row))
                if found is not None:
                    row, by_first = found
                    self.assertEqual((can_sort(first, row), can_sort(second, row)), (by_first, not by_first))
                for start, end, less in ((one, other, answer[0]), (other, one, answer[1])):
                    pairs = pairing(start, end)
                    self.assertEqual(pairs is not None, less)
                    self.assertTrue(pairs is None or is_pairing(start, end, pairs))

    def test_what_the_yards_do_not_sort_compares_as_the_bases_do(self):
        for one in YARDS[::3]:
            for other in YARDS[::2]:
                less = all(any(all_occurrences(row, least) for least in whole_basis(one)) for row in whole_basis(other))
                self.assertEqual(compare(one, other) in ("same", "fewer"), less)

    def test_counts_and_numbers(self):
        for text in YARDS + LARGE:
            for size in range(5):
                rows = sorted_rows(Yard(text), size)
                self.assertEqual(count_rows(text, size), len(rows))
                self.assertEqual(sorted([row_with_number(text, size, number) for number in range(len(rows))]), rows)
                self.assertEqual(sorted([place_of_row(text, row) for row in rows]), list(range(len(rows))))

    def test_how_many_rows(self):
        for text in YARDS + LARGE + ("q4", "(s1 s1)"):
            machine = machine_of(text)
            numbers = expand(series(machine), 30)
            self.assertEqual(numbers, counts(machine, 30))
            self.assertEqual(numbers, [count_words(machine, size) for size in range(31)])
            self.assertEqual(numbers, [count_rows(text, size) for size in range(31)])
            self.assertEqual(numbers[:5], [len(sorted_rows(Yard(text), size)) for size in range(5)])
            if is_known(text):
                self.assertEqual(numbers, [known_count(text, size) for size in range(31)])

    def test_the_catalogue(self):
        known = [text for text in YARDS + LARGE if is_known(text)]
        self.assertEqual(known, ["s1", "q2", "s2", "s3", "q3", "s4"])
        for text in known:
            for row in rows_up_to(4):
                answer = sort_by_rule(text, row)
                found = can_sort(Yard(text), row)
                self.assertEqual(isinstance(answer, Shown), not found)
                self.assertEqual(any(contains(row, least) for least in least_rows(text) if len(least) < 7), not found)
        for text in ("s1", "q2", "s2", "s3", "q3"):
            rows = sorted(least_rows(text), key=lambda row: (len(row), row))
            self.assertEqual(rows, whole_basis(text))


if __name__ == "__main__":
    unittest.main()
