import random
import unittest
from itertools import product

from oracles import common_divisor, product_of, shortened
from yardsort.errors import NotPolynomial
from yardsort.polynomials import add, divided, greatest_common, is_polynomial, multiply

HUGE = 10 ** 5000
SMALL = [shortened(numbers) for numbers in product((-2, 0, 1, 3), repeat=3)]
WRONG = ([0], [0, 0], [1, 0], [0, 1, 0], [-HUGE, 0])
PAIRED = (add, multiply, greatest_common, divided)


def polynomials(count, seed, degree, size):
    source = random.Random(seed)
    return [shortened([source.randint(-size, size) for _ in range(source.randint(0, degree + 1))]) for _ in range(count)]


class PolynomialsTest(unittest.TestCase):
    def test_is_polynomial(self):
        for numbers in ([], [1], [-1], [0, 1], [0, 0, -5], [HUGE], [1, 0, -HUGE]):
            self.assertIs(is_polynomial(numbers), True)
        for numbers in WRONG:
            self.assertIs(is_polynomial(numbers), False)

    def test_sums_and_products(self):
        self.assertEqual(add([1, 2], [3, -2]), [4])
        self.assertEqual(add([1, 2], [-1, -2]), [])
        self.assertEqual(add([], [0, 1]), [0, 1])
        self.assertEqual(add([1], [0, 0, 2]), [1, 0, 2])
        self.assertEqual(multiply([1, 1], [1, -1]), [1, 0, -1])
        self.assertEqual(multiply([], [1, 2]), [])
        self.assertEqual(multiply([0, HUGE], [0, -HUGE]), [0, 0, -HUGE * HUGE])
        for one in SMALL:
            for other in SMALL:
                many = max(len(one), len(other))
                longer = [numbers + [0] * (many - len(numbers)) for numbers in (one, other)]
                self.assertEqual(add(one, other), shortened([a + b for a, b in zip(*longer)]))
                self.assertEqual(multiply(one, other), product_of(one, other))

    def test_wrong_lists(self):
        for function in PAIRED:
            for wrong in WRONG:
                for one, other in ((wrong, [1]), ([1], wrong), (wrong, []), ([], wrong), (wrong, wrong)):
                    with self.assertRaises(NotPolynomial):
                        function(one, other)

    def test_arguments_stay_and_results_are_new(self):
        for function in PAIRED:
            one, other = [2, 4, 2], [1, 1]
            result = function(one, other)
            result.append(5)
            self.assertEqual((one, other), ([2, 4, 2], [1, 1]))
        for function in (add, greatest_common):
            one = [1, 2]
            function(one, []).append(5)
            function([], one).append(5)
            self.assertEqual(one, [1, 2])
        one = [1, 2]
        for function in (divided, multiply):
            function(one, [1]).append(5)
        self.assertEqual(one, [1, 2])


class GreatestCommonTest(unittest.TestCase):
    def test_ordinary(self):
        self.assertEqual(greatest_common([-1, 0, 1], [1, 2, 1]), [1, 1])
        self.assertEqual(greatest_common([2, 4], [4, 8]), [2, 4])
        self.assertEqual(greatest_common([2], [0, 3]), [1])
        self.assertEqual(greatest_common([6, 6], [4]), [2])
        self.assertEqual(greatest_common([1, 2], [1, 3]), [1])

    def test_0(self):
        self.assertEqual(greatest_common([], []), [])
        self.assertEqual(greatest_common([], [2, -4]), [-2, 4])
        self.assertEqual(greatest_common([-3], []), [3])
        self.assertEqual(greatest_common([0, -6], []), [0, 6])

    def test_the_last_coefficient_is_above_0(self):
        self.assertEqual(greatest_common([1, -1], [1, -1]), [-1, 1])
        self.assertEqual(greatest_common([-1, -1], [1, 0, -1]), [1, 1])
        self.assertEqual(greatest_common([-4], [-6]), [2])

    def test_small_ones(self):
        for one in SMALL:
            for other in SMALL:
                self.assertEqual(greatest_common(one, other), common_divisor(one, other))

    def test_random_ones(self):
        parts = polynomials(30, 1, 4, 6)
        for one, other, both in zip(parts, parts[1:], parts[2:]):
            first, second = product_of(one, both), product_of(other, both)
            found = greatest_common(first, second)
            self.assertEqual(found, common_divisor(first, second))
            self.assertEqual(greatest_common(second, first), found)
            if found:
                self.assertIsNotNone(divided(first, found))
                self.assertIsNotNone(divided(second, found))
                if both:
                    self.assertIsNotNone(divided(found, both))

    def test_great_ones(self):
        both = [HUGE + 1, 0, -3, 7]
        self.assertEqual(greatest_common(multiply(both, [1, 2]), multiply(both, [3, 5, 1])), both)
        one, other = polynomials(2, 2, 40, 9)
        longer = polynomials(1, 3, 60, 50)[0] + [1]
        self.assertEqual(greatest_common(multiply(longer, one), multiply(longer, add(one, [1]))), longer)
        self.assertEqual(greatest_common([1] * 101, [1] * 301), common_divisor([1] * 101, [1] * 301))


class DividedTest(unittest.TestCase):
    def test_ordinary(self):
        self.assertEqual(divided([1, 0, -1], [1, 1]), [1, -1])
        self.assertEqual(divided([2, 4], [2]), [1, 2])
        self.assertEqual(divided([2, 4], [-2]), [-1, -2])
        self.assertEqual(divided([1, 2], [1, 2]), [1])
        self.assertEqual(divided([], [3, 1]), [])
        self.assertEqual(divided([], [1]), [])

    def test_nothing_fits(self):
        for one, other in (([1], []), ([], []), ([1, 1], []), ([1], [1, 1]), ([1, 1], [1, 2]), ([1, 2, 1], [1, 0, 1]), ([1], [2])):
            self.assertIsNone(divided(one, other))

    def test_over_fractions_only(self):
        for one, other in (([1, 2], [2, 4]), ([1], [2]), ([1, 2], [2]), ([3, 3], [2, 2]), ([1, 3, 2], [2, 2]), ([2, 3], [4])):
            self.assertIsNone(divided(one, other))

    def test_small_ones(self):
        for one in SMALL:
            for other in SMALL:
                if other:
                    self.assertEqual(divided(product_of(one, other), other), one)
                found = divided(one, other)
                if found is None:
                    # A quotient of these would have small coefficients.
                    wide = [shortened(numbers) for numbers in product(range(-3, 4), repeat=2)]
                    self.assertTrue(not other or all(product_of(part, other) != one for part in wide))
                else:
                    self.assertEqual(product_of(found, other), one)

    def test_a_remainder_is_seen(self):
        for one in SMALL:
            for other in SMALL:
                if len(other) > 1:
                    self.assertIsNone(divided(add(product_of(one, other), [1]), other))


if __name__ == "__main__":
    unittest.main()
