"""The search, the language, the comparison and the basis of a yard agree about each row."""

import unittest

from oracles import all_occurrences, pattern_of, rows_up_to, rows_with
from yardsort.basis import basis_machine, basis_rows, core, in_basis, whole_basis
from yardsort.certificates import is_closed_list, is_least_row, is_occurrence, is_relation, is_way
from yardsort.closed import closed_list, is_closed
from yardsort.compare import compare, difference, is_pairing, pairing
from yardsort.known import is_known, known_count, least_rows
from yardsort.language import Language, machine_of, sorts_by_code
from yardsort.machines import accepts
from yardsort.mend import is_plan, is_stuck, mended
from yardsort.patterns import contains, first_occurrence
from yardsort.plan import Shift
from yardsort.rank import count_rows, count_words, place_of_row, row_with_number
from yardsort.replay import sorts, turned_row
from yardsort.rows import code_of, without
from yardsort.rules import Shown, sort_by_rule
from yardsort.search import can_sort, fewest, solve, sorted_rows
from yardsort.series import counts, expand, series
from yardsort.yards import Yard, turned

YARDS = ("s1", "q2", "s2", "d2", "(s1 q1)", "[s1 q1]", "s3", "q3", "d3", "i3", "o3", "(s2 q1)", "[q2 q1]", "(s1 [q1 d1])",
         "[d1 (s1 s1)]", "([s1 s1] s1)")
LARGE = ("s4", "d4", "i4", "o4", "[s2 s2]", "[s2 q2]", "[s1 s1 q2]", "[s1 (s2 s1)]", "(i2 o2)")
UNBOUNDED = ("s", "q", "d", "i", "o", "(s q)", "[q q]", "(i2 [s q1])")


class AgreementTest(unittest.TestCase):
    def test_a_way_or_a_closed_list(self):
        for text in YARDS + LARGE:
            yard, language, machine = Yard(text), Language(text), machine_of(text)
            for row in rows_up_to(4):
                way, situations = solve(yard, row), closed_list(yard, row)
                sorted_at_all = way is not None
                self.assertEqual(situations is None, sorted_at_all)
                self.assertTrue(sorts(yard, row, way) if sorted_at_all else is_closed(yard, row, situations))
                answers = (can_sort(yard, row), language.takes(code_of(row)), accepts(machine, code_of(row)),
                           sorts_by_code(text, row), fewest(yard, row) is not None)
                self.assertEqual(answers, (sorted_at_all,) * 5, (text, row))

    def test_rows_of_5_wagons(self):
        for text in YARDS + LARGE:
            yard, machine = Yard(text), machine_of(text)
            for row in rows_with(5)[::4]:
                self.assertEqual(can_sort(yard, row), accepts(machine, code_of(row)), (text, row))

    def test_turned_yards(self):
        for text in YARDS + LARGE:
            yard, other = Yard(text), Yard(turned(text))
            machine = machine_of(turned(text))
            for row in rows_up_to(4)[::3]:
                self.assertEqual(fewest(other, turned_row(row)), fewest(yard, row))
                self.assertEqual(accepts(machine, code_of(turned_row(row))), can_sort(yard, row))

    def test_the_basis(self):
        for text in YARDS:
            yard, basis, machine = Yard(text), whole_basis(text), basis_machine(text)
            for row in rows_up_to(4) + rows_with(5)[::9]:
                found = can_sort(yard, row)
                self.assertEqual(found, not any(contains(row, least) for least in basis))
                least = not found and all(can_sort(yard, without(row, wagon)) for wagon in row)
                self.assertEqual(row in basis, least)
                self.assertEqual(in_basis(text, row), least)
                self.assertEqual(accepts(machine, code_of(row)), least)
                self.assertEqual(row in basis_rows(text, len(row)), least)
                wagons = core(text, row)
                self.assertEqual(wagons is None, found)
                if not found:
                    self.assertIn(pattern_of([wagon for wagon in row if wagon in wagons]), basis)

    def test_the_comparison(self):
        words = {"same": (True, True), "fewer": (True, False), "more": (False, True), "apart": (False, False)}
        for one in YARDS[::2]:
            first = Yard(one)
            for other in YARDS[1::2] + ("s2", "d3"):
                second = Yard(other)
                found = difference(one, other)
                answer = words[compare(one, other)]
                self.assertEqual(found is None, answer == (True, True))
                for row in rows_up_to(3) if found is None else rows_up_to(len(found[0]) - 1):
                    self.assertEqual(can_sort(first, row), can_sort(second, row))
                if found is not None:
                    row, by_first = found
                    self.assertEqual((can_sort(first, row), can_sort(second, row)), (by_first, not by_first))
                for start, end, less in ((one, other, answer[0]), (other, one, answer[1])):
                    pairs = pairing(start, end)
                    self.assertEqual(pairs is not None, less)
                    self.assertTrue(pairs is None or is_pairing(start, end, pairs))

    def test_what_the_yards_do_not_sort_compares_as_the_bases_do(self):
        for one in YARDS[::3]:
            for other in YARDS[::2]:
                less = all(any(all_occurrences(row, least) for least in whole_basis(one)) for row in whole_basis(other))
                self.assertEqual(compare(one, other) in ("same", "fewer"), less)

    def test_counts_and_numbers(self):
        for text in YARDS + LARGE:
            for size in range(5):
                rows = sorted_rows(Yard(text), size)
                self.assertEqual(count_rows(text, size), len(rows))
                self.assertEqual(sorted([row_with_number(text, size, number) for number in range(len(rows))]), rows)
                self.assertEqual(sorted([place_of_row(text, row) for row in rows]), list(range(len(rows))))

    def test_how_many_rows(self):
        for text in YARDS + LARGE + ("q4", "(s1 s1)"):
            machine = machine_of(text)
            numbers = expand(series(machine), 30)
            self.assertEqual(numbers, counts(machine, 30))
            self.assertEqual(numbers, [count_words(machine, size) for size in range(31)])
            self.assertEqual(numbers, [count_rows(text, size) for size in range(31)])
            self.assertEqual(numbers[:5], [len(sorted_rows(Yard(text), size)) for size in range(5)])
            if is_known(text):
                self.assertEqual(numbers, [known_count(text, size) for size in range(31)])

    def test_the_catalogue(self):
        known = [text for text in YARDS + LARGE if is_known(text)]
        self.assertEqual(known, ["s1", "q2", "s2", "s3", "q3", "s4"])
        for text in known:
            for row in rows_up_to(4):
                answer = sort_by_rule(text, row)
                found = can_sort(Yard(text), row)
                self.assertEqual(isinstance(answer, Shown), not found)
                self.assertEqual(any(contains(row, least) for least in least_rows(text) if len(least) < 7), not found)
        for text in ("s1", "q2", "s2", "s3", "q3"):
            rows = sorted(least_rows(text), key=lambda row: (len(row), row))
            self.assertEqual(rows, whole_basis(text))


class CertificatesTest(unittest.TestCase):
    """What the program tells is accepted by the certificates."""

    def evidence(self, text, row):
        yard = Yard(text)
        ways = [solve(yard, without(row, wagon)) for wagon in range(1, len(row) + 1)]
        return closed_list(yard, row), ways

    def test_ways_and_closed_lists(self):
        for text in YARDS + LARGE + UNBOUNDED:
            yard = Yard(text)
            for row in rows_up_to(4):
                way, situations = solve(yard, row), closed_list(yard, row)
                if way is None:
                    self.assertTrue(is_closed_list(text, row, situations))
                    self.assertFalse(is_closed_list(text, row, situations[1:]))
                else:
                    self.assertTrue(is_way(text, row, way))
                    self.assertFalse(is_way(text, row, way[:-1]) and row)

    def test_ways_by_a_rule(self):
        for text in ("s", "q", "i", "o", "s3", "(q i)", "(o q)", "[q q q]"):
            for row in rows_up_to(5)[::3]:
                answer = sort_by_rule(text, row)
                if isinstance(answer, Shown):
                    self.assertTrue(is_occurrence(row, least_rows(text)[answer.which], answer.places))
                else:
                    self.assertTrue(is_way(text, row, answer))

    def test_least_rows(self):
        for text in YARDS:
            for row in whole_basis(text):
                situations, ways = self.evidence(text, row)
                self.assertTrue(is_least_row(text, row, situations, ways), (text, row))
                self.assertFalse(is_least_row(text, row, situations, ways[1:]))
        for text in ("s", "i", "o", "s4", "[q q q]", "(q o)", "([q q] q)"):
            for row in least_rows(text):
                self.assertTrue(is_least_row(text, row, *self.evidence(text, row)), (text, row))

    def test_rows_of_the_basis_and_cores(self):
        for text in YARDS[::3]:
            for row in rows_with(5)[::7]:
                wagons = core(text, row)
                if wagons is not None:
                    places = [place for place, wagon in enumerate(row) if wagon in wagons]
                    pattern = pattern_of([row[place] for place in places])
                    self.assertTrue(is_occurrence(row, pattern, places))
                    self.assertTrue(is_least_row(text, pattern, *self.evidence(text, pattern)))

    def test_first_occurrences(self):
        for row in rows_up_to(4):
            for pattern in rows_up_to(3):
                places = first_occurrence(row, pattern)
                self.assertTrue(places is None or is_occurrence(row, pattern, places))

    def test_pairings(self):
        for one in YARDS + LARGE[::3]:
            for other in YARDS[::2] + LARGE[1::3]:
                pairs = pairing(one, other)
                first, second = machine_of(one), machine_of(other)
                if pairs is None:
                    self.assertIn(compare(one, other), ("more", "apart"))
                    every = [(p, q) for p in range(len(first[1])) for q in range(len(second[1]))]
                    self.assertFalse(is_relation(first, second, every))
                else:
                    self.assertTrue(is_relation(first, second, pairs))
                    self.assertIn(compare(one, other), ("same", "fewer"))
                    self.assertFalse(is_relation(first, second, pairs[1:]) and first[1])

    def test_plans_and_stuck_lists(self):
        """A shift at its beginning has the plans and the stuck lists of its yard and its row."""
        for text in YARDS[::2] + UNBOUNDED:
            for row in rows_up_to(4)[::3]:
                shift = Shift(text, row)
                plan, situations = shift.plan(), shift.stuck()
                if plan is None:
                    self.assertTrue(is_closed_list(text, row, situations) and is_stuck(shift, situations))
                else:
                    self.assertTrue(is_way(text, row, plan) and is_plan(shift, plan))
                    for wagon in row:
                        self.assertTrue(is_way(text, without(row, wagon), mended(shift, plan, wagon)))


if __name__ == "__main__":
    unittest.main()
