import unittest

from oracles import (accepted, code, pairs_of_states, rows_up_to, set_of_word, sorted_by_moves, turn_row,
                     words_up_to)
from yardsort.compare import classes_of, compare, difference, is_pairing, pairing
from yardsort.errors import BadNumber, NotYard, TooLarge, Unbounded
from yardsort.language import machine_of
from yardsort.rows import row_of
from yardsort.yards import Yard, turned

HUGE = 10 ** 5000
# Yards that sort different rows, among them pairs of the same capacity that are apart.
YARDS = ("s1", "q4", "s2", "s3", "d3", "[s1 q2]", "s4", "d4", "i4", "o4", "[s1 s1 q2]", "[s1 s3]", "[s1 q3]", "[s1 (s1 s2)]",
         "[s1 (s1 d2)]", "[s1 (s2 s1)]", "[s2 s2]", "[s2 q2]", "(s1 s1)", "(s2 s2)", "(i2 o2)")
OPPOSITE = {"same": "same", "apart": "apart", "fewer": "more", "more": "fewer"}
BAD_YARDS = (("", NotYard), ("(s)", NotYard), ("s", Unbounded), ("[s6 q]", Unbounded), ("s5", TooLarge), ("[s2 d3]", TooLarge))


def is_accepting(machine, state):
    return state != -1 and machine[1][state]


class CompareTest(unittest.TestCase):
    def test_examples(self):
        self.assertEqual(compare("s1", "q3"), "same")
        self.assertEqual(compare("s1", "s2"), "fewer")
        self.assertEqual(compare("s2", "s1"), "more")
        self.assertEqual(compare("s3", "[q2 q1]"), "apart")
        self.assertEqual(difference("s1", "s2"), ([2, 1], False))
        self.assertEqual(difference("s2", "s1"), ([2, 1], True))
        self.assertEqual(difference("s3", "[q2 q1]"), ([2, 3, 1], False))
        self.assertIsNone(difference("s1", "q3"))
        self.assertEqual(pairing("s1", "s2"), [(0, 0)])
        self.assertEqual(classes_of(["s1", "s2", "q2"]), [0, 1, 0])

    def test_against_the_words(self):
        answers = {(False, False): "same", (False, True): "fewer", (True, False): "more", (True, True): "apart"}
        for one in YARDS:
            for other in YARDS:
                first, second = machine_of(one), machine_of(other)
                words = {}
                for (state, fellow), word in pairs_of_states(first, second).items():
                    if is_accepting(first, state) != is_accepting(second, fellow):
                        words[tuple(word)] = is_accepting(first, state)
                answer = answers[True in words.values(), False in words.values()]
                self.assertEqual(compare(one, other), answer, (one, other))
                expected = None
                if words:
                    word = list(words)[0]
                    expected = (row_of(list(word)), words[word])
                found = difference(one, other)
                self.assertEqual(found, expected)
                self.assertTrue(found is None or found[1] is True or found[1] is False)

    def test_the_first_words_against_all_words(self):
        for one, other in (("s2", "s3"), ("s3", "[q2 q1]"), ("s4", "d4"), ("i4", "o4"), ("[s2 q2]", "[s2 s2]")):
            first, second = machine_of(one), machine_of(other)
            words = words_up_to(max(first[0], second[0]), 5)
            apart = [word for word in words if accepted(first, word) != accepted(second, word)]
            self.assertEqual(difference(one, other), (row_of(apart[0]), accepted(first, apart[0])))

    def test_the_difference_is_sorted_by_one_yard_alone(self):
        for one, other in (("s2", "s3"), ("s3", "[q2 q1]"), ("d3", "s4"), ("[s2 s2]", "[q2 q2]"), ("i4", "o4"), ("d3", "s1")):
            row, by_first = difference(one, other)
            first, second = Yard(one), Yard(other)
            self.assertEqual((sorted_by_moves(first, row), sorted_by_moves(second, row)), (by_first, not by_first))
            for less in rows_up_to(len(row) - 1):
                self.assertEqual(sorted_by_moves(first, less), sorted_by_moves(second, less))

    def test_facts(self):
        less = {(one, other): compare(one, other) in ("same", "fewer") for one in YARDS for other in YARDS}
        for one in YARDS:
            self.assertEqual(compare(one, one), "same")
            for other in YARDS:
                self.assertEqual(compare(other, one), OPPOSITE[compare(one, other)])
                if less[one, other]:
                    self.assertTrue(all(less[one, third] for third in YARDS if less[other, third]))
                self.assertEqual(compare(turned(one), turned(other)), compare(one, other))

    def test_side_by_side(self):
        for one, other in (("s1", "s1"), ("s2", "q2"), ("q1", "d3"), ("i3", "s1"), ("(s1 s1)", "o2"), ("[s1 q1]", "s2")):
            self.assertIn(compare(one, f"[{one} {other}]"), ("fewer", "same"))
            self.assertIn(compare(other, f"[{one} {other}]"), ("fewer", "same"))

    def test_different_capacities(self):
        self.assertEqual(compare("s1", "q4"), "same")
        self.assertEqual(compare("q4", "s1"), "same")
        self.assertEqual(compare("(s1 s3)", "s3"), "same")
        self.assertEqual(compare("s2", "d4"), "fewer")
        self.assertEqual(difference("s2", "(s1 s2)"), None)
        self.assertEqual(difference("d3", "d4"), ([2, 3, 4, 1], False))
        self.assertEqual(difference("d4", "d3"), ([2, 3, 4, 1], True))

    def test_errors_in_order(self):
        functions = (compare, difference, pairing, lambda one, other: is_pairing(one, other, []),
                     lambda one, other: is_pairing(one, other, [(0, 0)] * 10001), lambda one, other: classes_of([one, other]))
        for function in functions:
            for text, error in BAD_YARDS:
                for one, other in ((text, "s1"), ("s1", text)):
                    with self.assertRaises(error):
                        function(one, other)
                for wrong, _ in BAD_YARDS:
                    with self.assertRaises(error):
                        function(text, wrong)
        with self.assertRaises(NotYard) as caught:
            compare("s1", "(s2)")
        self.assertEqual(caught.exception.at, 3)


class PairingTest(unittest.TestCase):
    def test_ordinary(self):
        self.assertIsNone(pairing("s2", "s1"))
        self.assertEqual(pairing("q3", "s1"), [(0, 0)])
        self.assertEqual(pairing("s2", "s2"), [(0, 0), (1, 1)])
        for text in YARDS:
            self.assertEqual(pairing(text, text), [(state, state) for state in range(len(machine_of(text)[1]))])

    def test_against_the_words(self):
        for one in YARDS:
            for other in YARDS:
                first, second = machine_of(one), machine_of(other)
                found = pairing(one, other)
                if compare(one, other) not in ("same", "fewer"):
                    self.assertIsNone(found)
                    continue
                expected = [pair for pair in pairs_of_states(first, second) if pair[0] != -1]
                self.assertEqual(found, expected)
                self.assertTrue(all(isinstance(pair, tuple) for pair in found))
                self.assertIs(is_pairing(one, other, found), True)

    def test_results_are_new(self):
        pairing("s2", "s3").clear()
        self.assertEqual(pairing("s2", "s3")[0], (0, 0))


class IsPairingTest(unittest.TestCase):
    def test_other_order_and_doubled_pairs(self):
        for one, other in (("s2", "s3"), ("s3", "[s1 s1 q2]"), ("[s1 q2]", "[s1 s1 q2]"), ("s2", "d4"), ("d3", "d4")):
            pairs = pairing(one, other)
            self.assertGreater(len(pairs), 1)
            self.assertIs(is_pairing(one, other, pairs), True)
            self.assertIs(is_pairing(one, other, pairs[::-1]), True)
            self.assertIs(is_pairing(one, other, pairs + pairs[::2] + [(0, 0)]), True)
            for at in range(len(pairs)):
                self.assertIs(is_pairing(one, other, pairs[:at] + pairs[at + 1:]), False)

    def test_empty_list(self):
        self.assertIs(is_pairing("s1", "s2", []), False)

    def test_numbers_that_are_not_states(self):
        pairs = pairing("s2", "s3")
        for wrong in ((2, 0), (0, 3), (-1, 0), (0, -1), (-1, -1), (HUGE, 0), (0, -HUGE), (2, 3)):
            self.assertIs(is_pairing("s2", "s3", pairs + [wrong]), False)
            self.assertIs(is_pairing("s2", "s3", [wrong] + pairs), False)
        # Counted from the end, these would be the pairs of the second states.
        for wrong in ((-1, 1), (1, -1), (-1, -1), (-2, 0), (0, -2), (-1, 0)):
            self.assertIs(is_pairing("s2", "s2", [(0, 0), (1, 1), wrong]), False)

    def test_more_pairs_than_needed(self):
        # In s2, a 1 leads to the first state, which alone accepts, and a 2 to the second one.
        self.assertEqual(machine_of("s2"), (2, (True, False), ((0, 1), (0, 1))))
        self.assertIs(is_pairing("s2", "s2", [(0, 0), (1, 1), (1, 0)]), True)
        self.assertIs(is_pairing("s2", "s2", [(0, 0), (1, 1), (0, 1)]), False)
        self.assertIs(is_pairing("s1", "s2", [(0, 0), (0, 1)]), False)

    def test_against_the_definition(self):
        for one, other in (("s1", "s2"), ("s2", "s2"), ("s2", "s3"), ("s2", "[s1 q2]"), ("s3", "s2"), ("q4", "s2")):
            first, second = machine_of(one), machine_of(other)
            every = [(p, q) for p in range(-1, len(first[1])) for q in range(len(second[1]))]
            for chosen in range(2 ** min(len(every), 9)):
                pairs = [pair for at, pair in enumerate(every) if chosen >> at & 1]
                self.assertIs(is_pairing(one, other, pairs), self.is_pairing_slowly(first, second, pairs))

    def is_pairing_slowly(self, first, second, pairs):
        for p, q in pairs:
            if p not in range(len(first[1])) or q not in range(len(second[1])):
                return False
            if first[1][p] and not second[1][q]:
                return False
            for letter in range(1, first[0] + 1):
                target = first[2][p][letter - 1]
                if target != -1:
                    fellow = second[2][q][letter - 1] if letter <= second[0] else -1
                    if fellow == -1 or (target, fellow) not in pairs:
                        return False
        return (0, 0) in pairs

    def test_no_list_is_one_if_the_yard_sorts_more(self):
        for one, other in (("s2", "s1"), ("s3", "[q2 q1]"), ("d3", "s3")):
            first, second = machine_of(one), machine_of(other)
            every = [(p, q) for p in range(len(first[1])) for q in range(len(second[1]))]
            self.assertIs(is_pairing(one, other, every), False)

    def test_10000_pairs_and_more(self):
        pairs = pairing("s2", "s3")
        self.assertIs(is_pairing("s2", "s3", pairs + pairs[:1] * (10000 - len(pairs))), True)
        self.assertIs(is_pairing("s2", "s3", pairs[:1] * 10000), False)
        for many in ([(0, 0)] * 10001, [(-1, 7)] * 10001, pairs * 6000):
            with self.assertRaises(TooLarge):
                is_pairing("s2", "s3", many)

    def test_arguments_stay(self):
        pairs = [(0, 0), (1, 1)]
        is_pairing("s2", "s2", pairs)
        self.assertEqual(pairs, [(0, 0), (1, 1)])


class ClassesTest(unittest.TestCase):
    def test_ordinary(self):
        self.assertEqual(classes_of([]), [])
        self.assertEqual(classes_of(["s4"]), [0])
        self.assertEqual(classes_of(["s2", "(s1 s2)", "s1", "[s1 s1]", "q4", "(s2 s1)", "s3", "(s1 s3)"]), [0, 0, 2, 0, 2, 0, 6, 6])

    def test_as_compared(self):
        classes = classes_of(list(YARDS[:20]))
        for at, text in enumerate(YARDS[:20]):
            self.assertEqual(classes[at], min(k for k in range(20) if compare(YARDS[k], text) == "same"))

    def test_20_yards_and_more(self):
        self.assertEqual(classes_of(["s1"] * 20), [0] * 20)
        self.assertEqual(classes_of(["s2"] + ["s1"] * 19), [0] + [1] * 19)
        for yards in (["s1"] * 21, [""] * 21, ["s"] + ["s5"] * 20):
            with self.assertRaises(BadNumber):
                classes_of(yards)

    def test_arguments_stay(self):
        yards = ["s1", "s2"]
        classes_of(yards)
        self.assertEqual(yards, ["s1", "s2"])


class SameRowsTest(unittest.TestCase):
    def test_turned_rows(self):
        for text in ("s3", "i4", "[s1 (s2 s1)]", "[s2 q2]"):
            first, second = machine_of(text), machine_of(turned(text))
            for row in rows_up_to(4):
                self.assertEqual(accepted(first, code(row)), accepted(second, code(turn_row(row))))

    def test_the_sets_of_words_are_behind_it(self):
        for one, other in (("[s1 s1]", "s2"), ("(s1 s2)", "s2")):
            for word in words_up_to(2, 4):
                ends = [((),) * len(Yard(text).kinds) in set_of_word(Yard(text), word) for text in (one, other)]
                self.assertEqual(ends[0], ends[1])
            self.assertEqual(compare(one, other), "same")


if __name__ == "__main__":
    unittest.main()
