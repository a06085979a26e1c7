import unittest

from oracles import accepted, code, is_least, pattern_of, rows_up_to, set_of_word, sorted_by_moves, turn_row, words_up_to
from yardsort.errors import NotRow, NotYard, TooLarge, Unbounded
from yardsort.language import Language, machine_of, sorts_by_code
from yardsort.products import includes
from yardsort.yards import Yard, turned

HUGE = 10 ** 5000
SMALL = ("s1", "q1", "s2", "q2", "d2", "i2", "o2", "(s1 q1)", "[s1 q1]", "s3", "q3", "d3", "i3", "o3", "(s2 q1)", "(q1 s2)",
         "[s2 q1]", "[q2 s1]", "(s1 [q1 d1])", "[d1 (s1 s1)]", "[s1 s1 s1]", "(s1 s1 s1)", "([s1 s1] s1)")
LARGE = ("s4", "q4", "d4", "i4", "o4", "(s2 s2)", "[s2 s2]", "[q2 q2]", "[s2 q2]", "(i2 o2)", "(o2 i2)", "(d2 s2)", "(s1 d3)",
         "[s1 s3]", "(s3 [q1])", "[s1 (s2 s1)]", "[s1 (s1 d2)]", "[s1 s1 q2]", "[(s1 s1) (s1 s1)]", "([s1 s1] [s1 s1])",
         "([s1 q1] s2)", "[s1 s1 s1 s1]", "(s1 [s1 s1] s1)")
YARDS = SMALL + tuple(text for text in LARGE if text != "(s3 [q1])")


class LanguageTest(unittest.TestCase):
    def test_examples(self):
        self.assertEqual(machine_of("q3"), (3, (True,), ((0, -1, -1),)))
        stack = Language("s2")
        for word, expected in (([2, 1], True), ([1, 1], True), ([3, 1, 1], False), ([3, 2, 1], False), ([], True)):
            self.assertIs(stack.takes(word), expected)
        self.assertIs(Language("[s1 s1]").takes([2, 2, 1]), True)
        self.assertEqual(Language("s1").set_of([]), [((),), ((1,),)])

    def test_fields(self):
        language = Language("(s2 q1)")
        self.assertIsInstance(language.yard, Yard)
        self.assertEqual((language.yard.text, language.letters), ("(s2 q1)", 3))

    def test_sets_and_words_against_the_definition(self):
        for text in YARDS:
            language = Language(text)
            machine = language.machine()
            yard = Yard(text)
            empty = ((),) * len(yard.kinds)
            for word in words_up_to(language.letters, 3) + [[1, 2, 3, 1], [2, 2, 1, 1], [3, 2, 1, 1, 2], [4, 1, 2, 1]]:
                expected = set_of_word(yard, word)
                self.assertEqual(language.set_of(word), sorted(expected), (text, word))
                self.assertIs(language.takes(word), empty in expected)
                self.assertIs(accepted(machine, word), empty in expected)

    def test_words_are_the_codes_of_sorted_rows(self):
        for text in YARDS:
            language = Language(text)
            machine = language.machine()
            yard = Yard(text)
            codes = {tuple(code(row)): sorted_by_moves(yard, row) for row in rows_up_to(3) + rows_up_to(4)[10::4]}
            for word, expected in codes.items():
                self.assertIs(language.takes(list(word)), expected, (text, word))
                self.assertIs(accepted(machine, list(word)), expected)
            for word in words_up_to(language.letters, 4):
                if any(letter > len(word) - at for at, letter in enumerate(word)):
                    self.assertFalse(language.takes(word) or accepted(machine, word))

    def test_machines_are_least(self):
        for text in YARDS:
            machine = machine_of(text)
            self.assertTrue(is_least(machine))
            self.assertEqual(machine[0], Language(text).letters)
            self.assertEqual(Language(text).machine(), machine)
            self.assertIs(machine[1][0], True)

    def test_integers_that_are_not_letters(self):
        language = Language("s2")
        for word in ([0], [3], [-1], [HUGE], [-HUGE], [1, 0], [2, 3], [0, 1], [1, 1, 3], [2, 0, 1]):
            self.assertIs(language.takes(word), False)
            self.assertEqual(language.set_of(word), [])

    def test_long_words(self):
        language = Language("[s2 q2]")
        self.assertIs(language.takes([1] * 3000), True)
        self.assertIs(language.takes([2] * 3000), False)
        self.assertIs(language.takes([2, 1] * 3000), True)

    def test_turned_yards(self):
        for text in YARDS:
            machine, other = machine_of(text), machine_of(turned(text))
            for row in rows_up_to(5):
                self.assertEqual(accepted(other, code(turn_row(row))), accepted(machine, code(row)))

    def test_rows_without_a_wagon(self):
        for text in YARDS:
            machine = machine_of(text)
            for row in rows_up_to(5):
                if accepted(machine, code(row)):
                    for wagon in row:
                        less = pattern_of([other for other in row if other != wagon])
                        self.assertTrue(accepted(machine, code(less)), (text, row, wagon))

    def test_greater_bounds_and_d(self):
        for one, other in (("s1", "s2"), ("s2", "s4"), ("[s1 q1]", "[s2 q1]"), ("[s1 q1]", "[s1 q3]"), ("(s1 s1)", "(s1 s3)"),
                           ("s3", "d3"), ("q4", "d4"), ("i4", "d4"), ("o4", "d4"), ("[s2 q2]", "[d2 d2]"), ("(i2 o2)", "(d2 d2)"),
                           ("[s1 (s1 s1)]", "[s1 (s2 s1)]"), ("[s1 (s1 s2)]", "[s1 (s1 d2)]")):
            self.assertTrue(includes(machine_of(other), machine_of(one)), (one, other))

    def test_errors_in_order(self):
        for text, error in (("", NotYard), ("s7", NotYard), ("(s q", NotYard), ("(s)", NotYard), ("[s6 s6", NotYard),
                            ("s", Unbounded), ("(s6 q)", Unbounded), ("[d6 d6 d]", Unbounded), ("s5", TooLarge),
                            ("[s2 s3]", TooLarge), ("(s1 s1 s1 s1 s1)", TooLarge), ("s6", TooLarge)):
            for function in (Language, machine_of, lambda told: sorts_by_code(told, [1, 1])):
                with self.assertRaises(error):
                    function(text)
        with self.assertRaises(NotYard) as caught:
            machine_of("(s6  q)")
        self.assertEqual(caught.exception.at, 4)
        self.assertEqual([Language(text).letters for text in ("s4", "[s2 s2]", "(s1 s1 s1 s1)")], [4, 4, 4])

    def test_results_are_new_and_arguments_stay(self):
        language, word = Language("s2"), [2, 1]
        language.set_of(word).clear()
        self.assertEqual(len(language.set_of(word)), 3)
        self.assertIs(language.takes(word), True)
        self.assertEqual(word, [2, 1])


class SortsByCodeTest(unittest.TestCase):
    def test_ordinary(self):
        self.assertIs(sorts_by_code("s2", [2, 1]), True)
        self.assertIs(sorts_by_code("s2", [3, 2, 1]), False)
        self.assertIs(sorts_by_code("[s1 s1]", [3, 1, 2]), True)
        self.assertIs(sorts_by_code("q3", []), True)

    def test_small_rows(self):
        for text in SMALL:
            for row in rows_up_to(4)[::3]:
                self.assertIs(sorts_by_code(text, row), sorted_by_moves(Yard(text), row), (text, row))

    def test_60_wagons(self):
        self.assertIs(sorts_by_code("s2", [place + 1 - place % 2 * 2 + 1 for place in range(60)]), True)
        self.assertIs(sorts_by_code("s4", list(range(60, 0, -1))), False)
        self.assertIs(sorts_by_code("s4", list(range(1, 61))), True)

    def test_no_row(self):
        for numbers in ([0], [2], [1, 1], [1, 3], list(range(1, 62))):
            with self.assertRaises(NotRow):
                sorts_by_code("s2", numbers)


if __name__ == "__main__":
    unittest.main()
