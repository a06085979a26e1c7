import random
import unittest

from oracles import accepts_words_for_ever, chain, circle, common_divisor, counted, product_of, random_machine, words_with
from yardsort.errors import BadNumber, NotFraction, NotMachine, TooLarge
from yardsort.language import machine_of
from yardsort.machines import least
from yardsort.products import complement, difference, intersection, union, widen
from yardsort.series import counts, expand, is_reduced, series, total

HUGE = 10 ** 5000
GOLDEN = (2, (True, False), ((0, 1), (0, -1)))
SORTED = (2, (True, True), ((0, 1), (-1, 1)))
ALL_ONES = (1, (True,), ((0,),))
NOTHING = (1, (), ())
EMPTY_WORD = (1, (True,), ((-1,),))
SIDE_CIRCLES = (2, (False, True, False, True), ((1, 2), (-1, -1), (2, 2), (3, 1)))
YARDS = ("s1", "s2", "s3", "d3", "s4", "[s2 s2]", "[s1 s1 q2]", "i4", "o4")
NOT_MACHINES = ((0, (), ()), (7, (), ()), (1, (True,), ()), (1, (), ((0,),)), (2, (True,), ((0,),)),
                (1, (True,), ((1,),)), (1, (True,), ((-2,),)), circle(2001))
NOT_FRACTIONS = (([], []), ([1], []), ([1], [2]), ([1], [-1]), ([1], [0, 1]), ([0], [1]), ([1, 0], [1]), ([1], [1, 0]),
                 ([1], [0]), ([], [2, 1]), ([], [0]), ([1, 0], [1, 0]), ([1], [HUGE]))


def machines(count, seed, letters=3, states=6):
    source = random.Random(seed)
    return [random_machine(source, source.randint(1, letters), source.randint(0, states)) for _ in range(count)]


class CountsTest(unittest.TestCase):
    def test_examples(self):
        self.assertEqual(counts(GOLDEN, 6), [1, 1, 2, 3, 5, 8, 13])
        self.assertEqual(counts(SORTED, 4), [1, 2, 3, 4, 5])
        self.assertEqual(counts(NOTHING, 3), [0, 0, 0, 0])
        self.assertEqual(counts(EMPTY_WORD, 3), [1, 0, 0, 0])

    def test_n(self):
        self.assertEqual(counts(GOLDEN, 0), [1])
        self.assertEqual(counts(NOTHING, 0), [0])
        self.assertEqual(counts((6, (True,), ((0,) * 6,)), 200), [6 ** n for n in range(201)])
        for machine in (GOLDEN, NOTHING):
            for n in (-1, 201, HUGE, -HUGE):
                with self.assertRaises(BadNumber):
                    counts(machine, n)

    def test_against_the_words(self):
        for machine in machines(60, 1, 3, 5):
            self.assertEqual(counts(machine, 5), [len(words_with(machine, n)) for n in range(6)])
            self.assertEqual(counts(machine, 30), counted(machine, 30))

    def test_2000_states(self):
        self.assertEqual(counts(circle(2000, 6, (0, 199)), 200), [1] + [0] * 198 + [6 ** 199, 0])

    def test_machines_of_two_machines(self):
        for letters in (1, 2):
            source = random.Random(letters)
            for _ in range(40):
                one, other = [random_machine(source, letters, source.randint(0, 4)) for _ in range(2)]
                first, second = counts(one, 12), counts(other, 12)
                either, both = counts(union(one, other), 12), counts(intersection(one, other), 12)
                self.assertEqual([a + b for a, b in zip(either, both)], [a + b for a, b in zip(first, second)])
                self.assertEqual(counts(difference(one, other), 12), [a - b for a, b in zip(first, both)])
                self.assertEqual(counts(complement(one), 12), [letters ** n - a for n, a in enumerate(first)])
                self.assertEqual(counts(widen(one, 6), 12), first)
                self.assertEqual(counts(least(one), 12), first)
                self.assertEqual(series(widen(one, 6)), series(one))
                if first == second and counts(one, 200) == counts(other, 200):
                    self.assertEqual(series(one), series(other))

    def test_no_machine_comes_first(self):
        for machine in NOT_MACHINES:
            for n in (-1, 3, 201):
                with self.assertRaises(NotMachine):
                    counts(machine, n)


class TotalTest(unittest.TestCase):
    def test_ordinary(self):
        self.assertEqual(total(NOTHING), 0)
        self.assertEqual(total((2, (False, True), ((0, -1), (1, 1)))), 0)
        self.assertEqual(total(EMPTY_WORD), 1)
        self.assertEqual(total(SIDE_CIRCLES), 1)
        self.assertEqual(total((2, (True, True), ((1, 1), (-1, -1)))), 3)
        for machine in (GOLDEN, SORTED, ALL_ONES, circle(5), complement(GOLDEN)):
            self.assertIsNone(total(machine))

    def test_great_totals(self):
        table = tuple((k + 1,) * 6 for k in range(1999)) + ((-1,) * 6,)
        self.assertEqual(total((6, (True,) * 2000, table)), (6 ** 2000 - 1) // 5)
        self.assertEqual(total(chain(2000)), 1)

    def test_random_machines(self):
        source = random.Random(3)
        for machine in machines(80, 2) + [random_machine(source, 3, 5) for _ in range(40)]:
            letters, accepting, table = machine
            rising = (letters, accepting, tuple(tuple(target if target > state else -1 for target in row)
                                                for state, row in enumerate(table)))
            self.assertEqual(total(rising), sum(counted(rising, 6)))
            expected = None if accepts_words_for_ever(machine) else sum(counted(machine, 7))
            self.assertEqual(total(machine), expected)

    def test_no_machine(self):
        for machine in NOT_MACHINES:
            with self.assertRaises(NotMachine):
                total(machine)


class SeriesTest(unittest.TestCase):
    def check(self, machine):
        numerator, denominator = found = series(machine)
        states = len(least(machine)[1])
        self.assertTrue(isinstance(found, tuple) and isinstance(numerator, list) and isinstance(denominator, list))
        self.assertEqual(denominator[0], 1)
        self.assertEqual((numerator[-1:] != [0], denominator[-1] != 0), (True, True))
        self.assertLessEqual(len(numerator), states)
        self.assertLessEqual(len(denominator), states + 1)
        self.assertEqual(len(common_divisor(numerator, denominator)), 1)
        self.assertIs(is_reduced(found), True)
        expected = counted(machine, 100)
        self.assertEqual(expand(found, 100), expected)
        quotient = product_of(denominator, expected)[:101 - len(denominator)]
        self.assertEqual(quotient + [0] * 101, numerator + [0] * (101 + len(quotient) - len(numerator)))

    def test_examples(self):
        self.assertEqual(series(GOLDEN), ([1], [1, -1, -1]))
        self.assertEqual(series(SORTED), ([1], [1, -2, 1]))
        self.assertEqual(series(NOTHING), ([], [1]))
        self.assertEqual(series((6, (False,), ((0,) * 6,))), ([], [1]))
        self.assertEqual(series(EMPTY_WORD), ([1], [1]))
        self.assertEqual(series(chain(4)), ([0, 0, 0, 1], [1]))
        self.assertEqual(series(circle(3, 1, (1,))), ([0, 1], [1, 0, 0, -1]))
        self.assertEqual(series((6, (True,), ((0,) * 6,))), ([1], [1, -6]))

    def test_fractions_that_can_be_reduced(self):
        # Words of two letters of even length: 1, 0, 4, 0, 16 .. from two states.
        self.assertEqual(series(circle(2, 2)), ([1], [1, 0, -4]))
        self.assertEqual(series(machine_of("s2")), ([1, -1], [1, -2]))
        # After a first letter 1, a word has 1s alone; after a 2, it has 2s alone: 1, 2, 2, 2 ..
        self.assertEqual(series((2, (True, True, True), ((1, 2), (1, -1), (-1, 2)))), ([1, 1], [1, -1]))

    def test_random_machines(self):
        for machine in machines(80, 4, 4, 7) + [machine_of(text) for text in YARDS]:
            self.check(machine)

    def test_30_states_and_31(self):
        source = random.Random(6)
        for machine in (circle(30), circle(30, 6, (0, 7)), chain(30), random_machine(source, 3, 30),
                        random_machine(source, 6, 30), random_machine(source, 2, 30)):
            self.check(machine)
        for machine in (circle(31), chain(31), circle(31, 6, (0, 7))):
            with self.assertRaises(TooLarge):
                series(machine)
        # Only the least machine counts.
        self.assertEqual(series((1, (True,) * 2000, ((0,),) * 2000)), ([1], [1, -1]))
        self.assertEqual(series(circle(2000, 1, tuple(range(0, 2000, 20)))), ([1], [1] + [0] * 19 + [-1]))

    def test_no_machine(self):
        for machine in NOT_MACHINES:
            with self.assertRaises(NotMachine):
                series(machine)

    def test_results_are_new(self):
        for part in series(GOLDEN):
            part.append(7)
        self.assertEqual(series(GOLDEN), ([1], [1, -1, -1]))


class ExpandTest(unittest.TestCase):
    def test_ordinary(self):
        self.assertEqual(expand(([1], [1, -1, -1]), 6), [1, 1, 2, 3, 5, 8, 13])
        self.assertEqual(expand(([], [1]), 3), [0, 0, 0, 0])
        self.assertEqual(expand(([3, 0, 5], [1]), 4), [3, 0, 5, 0, 0])
        self.assertEqual(expand(([3, 0, 5], [1]), 1), [3, 0])
        self.assertEqual(expand(([1, 2, 3], [1, 2, 3]), 3), [1, 0, 0, 0])
        self.assertEqual(expand(([0, HUGE], [1, HUGE]), 3), [0, HUGE, -HUGE * HUGE, HUGE ** 3])
        self.assertEqual(expand(([], [1, -1]), 2), [0, 0, 0])

    def test_random_ones(self):
        source = random.Random(7)
        for _ in range(60):
            numerator = [source.randint(-9, 9) for _ in range(source.randint(0, 6))] + [source.choice((-2, 3))]
            denominator = [1] + [source.randint(-3, 3) for _ in range(source.randint(0, 6))] + [source.choice((-1, 2))]
            found = expand((numerator, denominator), 20)
            quotient = product_of(denominator, found) + [0] * 21
            self.assertEqual(quotient[:21], (numerator + [0] * 21)[:21])

    def test_n(self):
        self.assertEqual(expand(([1], [1, -2]), 0), [1])
        self.assertEqual(expand(([1], [1, -2]), 200), [2 ** n for n in range(201)])
        for n in (-1, 201, HUGE, -HUGE):
            with self.assertRaises(BadNumber):
                expand(([1], [1, -2]), n)

    def test_wrong_fractions_come_first(self):
        for wrong in NOT_FRACTIONS:
            for n in (-1, 0, 5, 201):
                with self.assertRaises(NotFraction):
                    expand(wrong, n)

    def test_arguments_stay_and_results_are_new(self):
        fraction = ([1, 2], [1, -1])
        expand(fraction, 5).clear()
        is_reduced(fraction)
        self.assertEqual(fraction, ([1, 2], [1, -1]))


class IsReducedTest(unittest.TestCase):
    def test_ordinary(self):
        for fraction in (([1], [1]), ([], [1]), ([1], [1, -1, -1]), ([2, 4], [1, 3]), ([6], [1, 6]), ([1, 1], [1, 0, 1])):
            self.assertIs(is_reduced(fraction), True)
        for fraction in (([], [1, -1]), ([], [1, 0, 5]), ([1, 1], [1, 0, -1]), ([-2, -2], [1, 1]), ([0, 3, -3], [1, -2, 1])):
            self.assertIs(is_reduced(fraction), False)

    def test_random_ones(self):
        source = random.Random(8)
        for _ in range(150):
            numerator = [source.randint(-3, 3) for _ in range(source.randint(0, 3))] + [1]
            denominator = [1] + [source.randint(-2, 2) for _ in range(source.randint(0, 3))] + [-1]
            expected = len(common_divisor(numerator, denominator)) == 1
            self.assertIs(is_reduced((numerator, denominator)), expected)
            self.assertIs(is_reduced((product_of(numerator, [1, 3]), product_of(denominator, [1, 3]))), False)

    def test_wrong_fractions(self):
        for wrong in NOT_FRACTIONS:
            with self.assertRaises(NotFraction):
                is_reduced(wrong)


if __name__ == "__main__":
    unittest.main()
