import random
import unittest
from fractions import Fraction
from math import isqrt

from oracles import chain, circle, counted, exceeds_growth, kind_of, random_machine
from yardsort.errors import BadNumber, NotMachine, TooLarge
from yardsort.growth import growth, kind
from yardsort.language import machine_of
from yardsort.machines import least

HUGE = 10 ** 5000
GOLDEN = (2, (True, False), ((0, 1), (0, -1)))
SORTED = (2, (True, True), ((0, 1), (-1, 1)))
ALL_ONES = (1, (True,), ((0,),))
NOTHING = (1, (), ())
EMPTY_WORD = (1, (True,), ((-1,),))
SIDE_CIRCLES = (2, (False, True, False, True), ((1, 2), (-1, -1), (2, 2), (3, 1)))
YARDS = ("s1", "s2", "s3", "d3", "s4", "i4", "[s1 (s1 s2)]")
NOT_MACHINES = ((0, (), ()), (7, (), ()), (1, (True,), ()), (1, (), ((0,),)), (2, (True,), ((0,),)),
                (1, (True,), ((1,),)), (1, (True,), ((-2,),)), circle(2001))


def machines(count, seed):
    """Machines with few letters that lead on, so that all kinds occur."""
    source = random.Random(seed)
    found = []
    for _ in range(count):
        letters, states = source.randint(1, 3), source.randint(0, 6)
        table = tuple(tuple(source.choice((-1, -1, state, min(state + 1, states - 1), source.randrange(state, states),
                                           source.randrange(states))) for _ in range(letters)) for state in range(states))
        found.append((letters, tuple(source.random() < 0.5 for _ in range(states)), table))
    return found


class GrowthTest(unittest.TestCase):
    def check(self, machine, places):
        found = growth(machine, places)
        small = least(machine)
        self.assertFalse(found > 0 and exceeds_growth(small, Fraction(found, 10 ** places)), (machine, places))
        self.assertTrue(exceeds_growth(small, Fraction(found + 1, 10 ** places)), (machine, places))

    def test_examples(self):
        self.assertEqual(growth(GOLDEN, 3), 1618)
        self.assertEqual(growth(SORTED, 2), 100)

    def test_known_ones(self):
        for places in range(7):
            scale = 10 ** places
            self.assertEqual(growth(GOLDEN, places), (scale + isqrt(5 * scale * scale)) // 2)
            self.assertEqual(growth((6, (True,), ((0,) * 6,)), places), 6 * scale)
            self.assertEqual(growth(machine_of("s2"), places), 2 * scale)
            self.assertEqual(growth(circle(2, 3), places), 3 * scale)
            # A circle of two states, with two letters back: the square of the growth is 2.
            self.assertEqual(growth((2, (True, False), ((1, -1), (0, 0))), places), isqrt(2 * scale * scale))

    def test_no_circles(self):
        for machine in (NOTHING, EMPTY_WORD, SIDE_CIRCLES, chain(30), (6, (False,), ((0,) * 6,)), (6, (), ())):
            for places in (0, 1, 6):
                self.assertEqual(growth(machine, places), 0)

    def test_slow_ones(self):
        for machine in (ALL_ONES, SORTED, circle(7), circle(30), (2, (True, True, True), ((1, 2), (1, -1), (-1, 2)))):
            for places in range(7):
                self.assertEqual(growth(machine, places), 10 ** places)

    def test_random_machines(self):
        for machine in machines(60, 1):
            for places in (0, 1, 3, 6):
                self.check(machine, places)

    def test_yards(self):
        for text in YARDS:
            for places in (0, 6):
                self.check(machine_of(text), places)

    def test_the_numbers_of_words_grow_so(self):
        for machine in [machine_of(text) for text in YARDS] + [GOLDEN, circle(1, 5)]:
            many = counted(machine, 400)
            found = growth(machine, 6)
            self.assertLess(abs(many[400] * 10 ** 6 // many[399] - found), 10 ** 4)

    def test_30_states_and_31(self):
        for letters in (1, 2, 6):
            self.assertEqual(growth(circle(30, letters), 6), letters * 10 ** 6)
        for machine in (circle(31), chain(31), circle(31, 6)):
            for places in (0, 6):
                with self.assertRaises(TooLarge):
                    growth(machine, places)
        source = random.Random(2)
        machine = random_machine(source, 6, 30)
        self.assertEqual(growth(machine, 2), growth(machine, 6) // 10 ** 4)
        self.assertEqual(growth(circle(2000, 2, tuple(range(0, 2000, 25))), 1), 20)

    def test_errors_in_order(self):
        for machine in NOT_MACHINES:
            for places in (-1, 0, 7):
                with self.assertRaises(NotMachine):
                    growth(machine, places)
        for machine in (GOLDEN, NOTHING, circle(31)):
            for places in (-1, 7, HUGE, -HUGE):
                with self.assertRaises(BadNumber):
                    growth(machine, places)


class KindTest(unittest.TestCase):
    def test_examples(self):
        self.assertEqual(kind(GOLDEN), ("fast", 0))
        self.assertEqual(kind(SORTED), ("slow", 1))

    def test_finite(self):
        for machine in (NOTHING, EMPTY_WORD, SIDE_CIRCLES, chain(1), chain(2000), (2, (False, True), ((0, -1), (1, 1)))):
            self.assertEqual(kind(machine), ("finite", 0))

    def test_slow(self):
        for machine in (ALL_ONES, circle(7), circle(2000), (2, (True, True, True), ((1, 2), (1, -1), (-1, 2)))):
            self.assertEqual(kind(machine), ("slow", 0))
        # From each of six states a letter leads back to it, and another one to the next state.
        for size in range(1, 7):
            table = tuple((k, k + 1 if k + 1 < size else -1) for k in range(size))
            self.assertEqual(kind((2, (True,) * size, table)), ("slow", size - 1))
        # Circles, with states in between that are in none, and two ways of which one meets more circles.
        machine = (3, (False, False, False, False, True), ((0, 1, 3), (-1, 2, -1), (2, 3, -1), (-1, 4, -1), (4, -1, -1)))
        self.assertEqual(kind(machine), ("slow", 2))

    def test_fast(self):
        # Two letters from a state to the next one of its circle are two circles.
        for machine in (circle(7, 2), circle(2000, 2), circle(1, 2), (2, (True, False), ((1, -1), (0, 0))),
                        (2, (True, True), ((0, 1), (0, -1))), machine_of("s3"), machine_of("[s2 q2]")):
            self.assertEqual(kind(machine), ("fast", 0))
        # A slow circle before a fast one.
        self.assertEqual(kind((3, (False, True), ((0, 1, -1), (1, 1, -1)))), ("fast", 0))

    def test_letters_to_another_circle_do_not_make_it_fast(self):
        self.assertEqual(kind((3, (False, True), ((0, 1, 1), (1, -1, -1)))), ("slow", 1))

    def test_random_machines(self):
        seen = {}
        for machine in machines(500, 3):
            found = kind(machine)
            self.assertEqual(found, kind_of(least(machine)), machine)
            seen[found] = True
        self.assertLessEqual({("finite", 0), ("fast", 0), ("slow", 0), ("slow", 1), ("slow", 2)}, set(seen))

    def test_growth_and_numbers_of_words(self):
        for machine in machines(150, 4) + [GOLDEN, SORTED, NOTHING, circle(6), chain(6)]:
            name, degree = kind(machine)
            small = least(machine)
            states = len(small[1])
            many = counted(machine, 40)
            if name == "finite":
                self.assertTrue(all(number == 0 for number in many[states:]))
                self.assertEqual(growth(machine, 6), 0)
            elif name == "slow":
                self.assertEqual(growth(machine, 6), 10 ** 6)
                for n, number in enumerate(many):
                    self.assertLessEqual(number, (n + 1) ** degree * machine[0] ** states)
            else:
                self.assertFalse(exceeds_growth(small, Fraction(1)))
                self.assertGreater(growth(machine, 6), 10 ** 6)

    def test_no_machine(self):
        for machine in NOT_MACHINES:
            with self.assertRaises(NotMachine):
                kind(machine)


if __name__ == "__main__":
    unittest.main()
