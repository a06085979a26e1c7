import random
import unittest
from unittest.mock import patch

from oracles import (accepted, accepts_words_for_ever, all_occurrences, code, is_least, one_too_many, pattern_of,
                     rows_of_basis, rows_up_to, rows_with, sorted_by_moves, turn_row)
from yardsort.basis import basis_machine, basis_rows, core, family, in_basis, whole_basis
from yardsort.errors import BadNumber, NotRow, NotYard, TooLarge, Unbounded
from yardsort.language import machine_of
from yardsort.rows import row_of
from yardsort.wordlists import is_finite
from yardsort.yards import Yard, turned

HUGE = 10 ** 5000
YARDS = ("s1", "q1", "d1", "s2", "q2", "d2", "i2", "(s1 q1)", "[s1 q1]", "s3", "q3", "d3", "i3", "o3", "(s2 q1)", "(d1 s2)",
         "[s2 q1]", "[d2 o1]", "(s1 [q1 d1])", "([s1 i1] o1)", "[d1 (s1 s1)]", "[s1 s1 s1]", "(s1 s1 s1)")
KINDS = ("s1", "s2", "s3", "d3", "[s1 q2]")
BAD_YARDS = (("", NotYard), ("(s)", NotYard), ("s", Unbounded), ("[s6 q]", Unbounded), ("s5", TooLarge), ("[s2 d3]", TooLarge),
             ("s4", TooLarge), ("[s2 s2]", TooLarge), ("(s1 s1 s1 s1)", TooLarge), ("[s1 q3]", TooLarge))
NOT_ROWS = ([0], [2], [1, 1], [1, 3], list(range(1, 62)))


class WholeBasisTest(unittest.TestCase):
    def test_examples(self):
        self.assertEqual(whole_basis("s1"), [[2, 1]])
        self.assertEqual(whole_basis("q3"), [[2, 1]])
        self.assertEqual(whole_basis("s2"), [[2, 3, 1], [3, 2, 1]])
        self.assertEqual(whole_basis("s3"), [[2, 3, 1], [4, 3, 2, 1]])
        self.assertEqual(whole_basis("[s1 q2]"), [[3, 2, 1], [2, 3, 4, 1]])

    def test_against_the_definition(self):
        for text in YARDS:
            yard = Yard(text)
            expected = [row for count in range(5) for row in rows_of_basis(yard, count)]
            self.assertEqual(whole_basis(text), expected, text)

    def test_a_row_is_sorted_exactly_if_it_contains_no_row_of_the_basis(self):
        for text in KINDS:
            basis = whole_basis(text)
            machine = machine_of(text)
            for row in rows_up_to(6)[::3]:
                contained = any(all_occurrences(row, least) for least in basis)
                self.assertEqual(accepted(machine, code(row)), not contained, (text, row))

    def test_no_row_of_it_contains_another_one(self):
        for text in YARDS:
            basis = whole_basis(text)
            for row in basis:
                self.assertEqual([least for least in basis if all_occurrences(row, least)], [row])

    def test_turned_yards(self):
        for text in YARDS:
            turned_rows = sorted([turn_row(row) for row in whole_basis(text)], key=lambda row: (len(row), row))
            self.assertEqual(whole_basis(turned(text)), turned_rows)

    def test_sizes_and_entries(self):
        for text in YARDS:
            most = machine_of(text)[0]
            for row in whole_basis(text):
                self.assertGreaterEqual(len(row), 2)
                self.assertLessEqual(max(code(row)), most + 1)

    def test_rows_that_end_with_the_first_wagon(self):
        for text in YARDS:
            basis = whole_basis(text)
            size = machine_of(text)[0] + 1
            for row in rows_with(size):
                if row[-1] == 1:
                    self.assertTrue(any(all_occurrences(row, least) for least in basis))

    def test_results_are_new(self):
        whole_basis("s2")[0].append(9)
        whole_basis("s2").clear()
        self.assertEqual(whole_basis("s2"), [[2, 3, 1], [3, 2, 1]])


class BasisMachineTest(unittest.TestCase):
    def test_example(self):
        self.assertEqual(basis_machine("s1"), (2, (False, False, True), ((-1, 1), (2, -1), (-1, -1))))

    def test_against_the_definition(self):
        for text in YARDS:
            machine = basis_machine(text)
            self.assertTrue(is_least(machine))
            self.assertEqual(machine[0], machine_of(text)[0] + 1)
            yard = Yard(text)
            rows = [row for count in range(5) for row in rows_of_basis(yard, count)]
            for row in rows_up_to(4):
                self.assertEqual(accepted(machine, code(row)), row in rows)

    def test_rows_of_more_wagons(self):
        for text in KINDS:
            machine, whole = machine_of(text), basis_machine(text)
            for row in rows_up_to(6)[::2]:
                expected = one_too_many(machine, row) and not accepted(machine, code(row))
                self.assertEqual(accepted(whole, code(row)), expected)

    def test_words_that_are_not_codes(self):
        for text in KINDS:
            machine = basis_machine(text)
            for word in ([2], [1, 2], [2, 2], [3, 1], [2, 1, 2], [3, 3, 1], [2, 3, 1]):
                self.assertFalse(accepted(machine, word))


class InBasisTest(unittest.TestCase):
    def test_examples(self):
        self.assertIs(in_basis("s1", [3, 2, 1]), False)
        self.assertIs(in_basis("s1", [2, 1]), True)
        self.assertIs(in_basis("s2", [2, 3, 1]), True)
        self.assertIs(in_basis("s2", [1, 2, 3]), False)

    def test_the_empty_row_and_one_wagon(self):
        for text in YARDS:
            self.assertIs(in_basis(text, []), False)
            self.assertIs(in_basis(text, [1]), False)

    def test_against_the_definition(self):
        for text in YARDS:
            yard = Yard(text)
            rows = [row for count in range(5) for row in rows_of_basis(yard, count)]
            for row in rows_up_to(4):
                self.assertIs(in_basis(text, row), row in rows)

    def test_as_the_machine(self):
        for text in KINDS:
            machine = basis_machine(text)
            for row in rows_up_to(6)[::5]:
                self.assertIs(in_basis(text, row), accepted(machine, code(row)))
        self.assertIs(in_basis("d3", list(range(60, 0, -1))), False)
        self.assertIs(in_basis("d3", list(range(1, 61))), False)


class BasisRowsTest(unittest.TestCase):
    def test_against_the_whole_basis(self):
        for text in YARDS:
            basis = whole_basis(text)
            for count in range(9):
                self.assertEqual(basis_rows(text, count), [row for row in basis if len(row) == count])

    def test_in_the_order_of_rows(self):
        self.assertEqual(basis_rows("d3", 4), [[2, 3, 4, 1], [2, 4, 3, 1], [3, 2, 4, 1], [3, 4, 2, 1], [4, 2, 3, 1], [4, 3, 2, 1]])
        codes = [code(row) for row in basis_rows("[s1 q2]", 4)]
        self.assertEqual(codes, [[4, 1, 1, 1]])

    def test_bad_number(self):
        self.assertEqual((basis_rows("s1", 0), basis_rows("s1", 8)), ([], []))
        for count in (-1, 9, HUGE, -HUGE):
            with self.assertRaises(BadNumber):
                basis_rows("s1", count)


class CoreTest(unittest.TestCase):
    def check(self, text, row, basis):
        wagons = core(text, row)
        if wagons is None:
            self.assertTrue(accepted(machine_of(text), code(row)))
        else:
            self.assertEqual(wagons, sorted(set(wagons)))
            self.assertIn(pattern_of([wagon for wagon in row if wagon in wagons]), basis, (text, row))

    def test_example(self):
        self.assertIn(core("s1", [3, 1, 2]), ([1, 3], [2, 3]))
        self.assertIsNone(core("s1", [1, 2]))
        self.assertIsNone(core("s1", []))
        self.assertEqual(core("s2", [1, 3, 4, 2, 5]), [2, 3, 4])

    def test_small_rows(self):
        for text in YARDS:
            basis = whole_basis(text)
            for row in rows_up_to(4) + rows_with(5)[::7]:
                self.check(text, row, basis)

    def test_rows_of_the_basis_are_their_own_cores(self):
        for text in YARDS:
            for row in whole_basis(text):
                self.assertEqual(core(text, row), sorted(row))

    def test_long_rows(self):
        source = random.Random(1)
        for text in KINDS:
            basis = whole_basis(text)
            for size in (30, 60):
                row = list(range(1, size + 1))
                self.assertIsNone(core(text, row))
                self.check(text, row[::-1], basis)
                self.check(text, row[1:] + row[:1], basis)
                source.shuffle(row)
                self.check(text, row, basis)

    def test_arguments_stay(self):
        row = [3, 1, 2]
        core("s1", row).append(7)
        in_basis("s1", row)
        self.assertEqual(row, [3, 1, 2])


class FamilyTest(unittest.TestCase):
    def test_finite(self):
        for text in YARDS:
            self.assertIs(is_finite(basis_machine(text)), True)
            self.assertIsNone(family(text))
            self.assertIsNotNone(whole_basis(text))

    # No yard with a capacity of at most 3 has an infinite basis, so the limit
    # is raised here to see what the functions say of one.
    @patch("yardsort.basis.MOST_CAPACITY", 4)
    def test_infinite(self):
        for text in ("[s2 s2]", "[s1 s3]", "[s2 q2]", "[s1 s1 q2]"):
            self.assertTrue(accepts_words_for_ever(basis_machine(text)))
            self.assertIsNone(whole_basis(text))
            before, middle, behind = family(text)
            self.assertGreater(len(middle), 0)
            machine = machine_of(text)
            for times in range(9):
                row = row_of(before + middle * times + behind)
                self.assertIs(in_basis(text, row), True)
                self.assertTrue(one_too_many(machine, row) and not accepted(machine, code(row)))
            self.assertEqual(core(text, row), sorted(row))

    @patch("yardsort.basis.MOST_CAPACITY", 4)
    def test_infinite_against_the_definition(self):
        yard = Yard("[s2 s2]")
        self.assertEqual(basis_rows("[s2 s2]", 4), rows_of_basis(yard, 4))
        for row in basis_rows("[s2 s2]", 5) + basis_rows("[s2 s2]", 8):
            self.assertFalse(sorted_by_moves(yard, row))
            for wagon in row[::3]:
                self.assertTrue(sorted_by_moves(yard, pattern_of([other for other in row if other != wagon])))

    @patch("yardsort.basis.MOST_CAPACITY", 4)
    def test_finite_with_a_capacity_of_4(self):
        self.assertEqual(whole_basis("s4"), [[2, 3, 1], [5, 4, 3, 2, 1]])
        self.assertIsNone(family("s4"))


class ErrorsTest(unittest.TestCase):
    def test_yards_come_first(self):
        functions = [basis_machine, whole_basis, family]
        for row in ([1], [1, 1]):
            functions.extend([lambda text, row=row: in_basis(text, row), lambda text, row=row: core(text, row)])
        for count in (-1, 3, 9):
            functions.append(lambda text, count=count: basis_rows(text, count))
        for function in functions:
            for text, error in BAD_YARDS:
                with self.assertRaises(error):
                    function(text)
        with self.assertRaises(NotYard) as caught:
            basis_machine("(s4 s4")
        self.assertEqual(caught.exception.at, 6)

    def test_no_row(self):
        for row in NOT_ROWS:
            for function in (in_basis, core):
                with self.assertRaises(NotRow):
                    function("s3", row)


if __name__ == "__main__":
    unittest.main()
