import random
import unittest

from oracles import accepted, chain, circle, is_least, random_machine, words_up_to
from yardsort.errors import BadNumber, NotMachine, OtherLetters, TooLarge
from yardsort.machines import is_machine, least
from yardsort.products import complement, difference, includes, intersection, union, widen

HUGE = 10 ** 5000
GOLDEN = (2, (True, False), ((0, 1), (0, -1)))
ALL_ONES = (1, (True,), ((0,),))
NOTHING = (1, (), ())
EMPTY_WORD = (1, (True,), ((-1,),))
NOT_MACHINES = ((0, (), ()), (7, (), ()), (1, (True,), ()), (1, (), ((0,),)), (2, (True,), ((0,),)),
                (1, (True,), ((1,),)), (1, (True,), ((-2,),)), circle(2001))
PAIRED = (union, intersection, difference)
WANTED = {union: lambda one, other: one or other, intersection: lambda one, other: one and other,
          difference: lambda one, other: one and not other}


def machines(count, seed, letters):
    source = random.Random(seed)
    return [random_machine(source, letters, source.randint(0, 4)) for _ in range(count)]


class ComplementTest(unittest.TestCase):
    def test_examples(self):
        self.assertEqual(complement(GOLDEN), (2, (False, True, True), ((0, 1), (0, 2), (2, 2))))
        self.assertEqual(complement(ALL_ONES), NOTHING)
        self.assertEqual(complement(NOTHING), ALL_ONES)
        self.assertEqual(complement(EMPTY_WORD), (1, (False, True), ((1,), (1,))))
        self.assertEqual(complement((3, (), ())), (3, (True,), ((0, 0, 0),)))

    def test_random_machines(self):
        for letters in (1, 2, 3):
            for machine in machines(30, letters, letters):
                result = complement(machine)
                self.assertTrue(is_least(result))
                self.assertEqual(result[0], letters)
                for word in words_up_to(letters, 4):
                    self.assertIs(accepted(result, word), not accepted(machine, word))
                self.assertEqual(complement(result), least(machine))

    def test_2000_states(self):
        self.assertEqual(len(complement(circle(2000))[1]), 2000)
        self.assertEqual(len(complement(chain(1999))[1]), 2000)
        with self.assertRaises(TooLarge):
            complement(chain(2000))

    def test_no_machine(self):
        for machine in NOT_MACHINES:
            with self.assertRaises(NotMachine):
                complement(machine)


class PairedTest(unittest.TestCase):
    def test_examples(self):
        twos, threes = circle(2), circle(3)
        self.assertEqual(union(twos, threes), circle(6, 1, (0, 2, 3, 4)))
        self.assertEqual(intersection(twos, threes), circle(6))
        self.assertEqual(difference(twos, threes), circle(6, 1, (2, 4)))
        self.assertEqual(difference(threes, twos), circle(6, 1, (3,)))
        self.assertEqual(union(EMPTY_WORD, chain(2)), (1, (True, True), ((1,), (-1,))))

    def test_with_no_words(self):
        for machine in (GOLDEN, (2, (), ()), (2, (False, True), ((1, -1), (1, 1)))):
            nothing = (2, (), ())
            self.assertEqual(union(machine, nothing), least(machine))
            self.assertEqual(union(nothing, machine), least(machine))
            self.assertEqual(intersection(machine, nothing), nothing)
            self.assertEqual(intersection(nothing, machine), nothing)
            self.assertEqual(difference(machine, nothing), least(machine))
            self.assertEqual(difference(nothing, machine), nothing)
            self.assertEqual(difference(machine, machine), nothing)
            self.assertEqual(union(machine, complement(machine)), (2, (True,), ((0, 0),)))
            self.assertEqual(intersection(machine, complement(machine)), nothing)

    def test_random_machines(self):
        for letters in (1, 2):
            for one in machines(12, 10 + letters, letters):
                for other in machines(12, 20 + letters, letters):
                    for function in PAIRED:
                        result = function(one, other)
                        self.assertTrue(is_least(result))
                        self.assertEqual(result[0], letters)
                        for word in words_up_to(letters, 4):
                            wanted = WANTED[function](accepted(one, word), accepted(other, word))
                            self.assertIs(accepted(result, word), wanted)

    def test_six_letters(self):
        one, other = circle(2, 6), (6, (True,), ((0, 0, -1, -1, 0, -1),))
        self.assertEqual(intersection(one, other),
                         (6, (True, False), ((1, 1, -1, -1, 1, -1), (0, 0, -1, -1, 0, -1))))

    def test_2000_states_and_more(self):
        for function in PAIRED:
            self.assertEqual(len(function(circle(16), circle(125))[1]), 2000)
            with self.assertRaises(TooLarge):
                function(circle(3), circle(667))
            with self.assertRaises(TooLarge):
                function(circle(400), circle(401))
        with self.assertRaises(TooLarge):
            union(circle(2000), chain(2))

    def test_only_the_least_machine_counts(self):
        one = (2, (False,) + (True,) + (False,) * 99, ((1, -1),) + tuple((k % 100 + 1, -1) for k in range(1, 101)))
        other = (2, (False,) + (True,) + (False,) * 98, ((-1, 1),) + tuple((-1, k % 99 + 1) for k in range(1, 100)))
        self.assertEqual(intersection(one, other), (2, (), ()))
        self.assertEqual(difference(one, other), least(one))
        # Words of letters 1 and 2 whose last letter is 1 or 2 and whose length is counted up to 100 and 101.
        ends = [(2, (False,) * 2 * size, tuple(((k % size + 1) % size * 2, (k % size + 1) % size * 2 + 1)
                 for k in [state // 2 for state in range(2 * size)])) for size in (50, 51)]
        last_one = (2, tuple(state == 0 for state in range(100)), ends[0][2])
        last_two = (2, tuple(state == 1 for state in range(102)), ends[1][2])
        self.assertEqual(intersection(last_one, last_two), (2, (), ()))
        everything = (2, (True,), ((0, 0),))
        self.assertEqual(union(everything, last_one), everything)

    def test_other_letters(self):
        for function in PAIRED:
            for one, other in ((GOLDEN, ALL_ONES), (ALL_ONES, GOLDEN), ((5, (), ()), (6, (), ())),
                               (circle(400), circle(401, 2))):
                with self.assertRaises(OtherLetters):
                    function(one, other)

    def test_no_machine_comes_first(self):
        for function in PAIRED:
            for machine in NOT_MACHINES:
                for one, other in ((machine, GOLDEN), (GOLDEN, machine), (ALL_ONES, machine), (machine, machine)):
                    with self.assertRaises(NotMachine):
                        function(one, other)


class WidenTest(unittest.TestCase):
    def test_ordinary(self):
        self.assertEqual(widen(ALL_ONES, 1), ALL_ONES)
        self.assertEqual(widen(ALL_ONES, 3), (3, (True,), ((0, -1, -1),)))
        self.assertEqual(widen(GOLDEN, 6), (6, (True, False), ((0, 1, -1, -1, -1, -1), (0, -1, -1, -1, -1, -1))))
        self.assertEqual(widen(NOTHING, 6), (6, (), ()))
        self.assertEqual(widen((1, (True, True), ((1,), (0,))), 2), (2, (True,), ((0, -1),)))
        self.assertEqual(widen((1, (False,), ((0,),)), 2), (2, (), ()))

    def test_random_machines(self):
        for letters in (1, 2):
            for machine in machines(15, 30 + letters, letters):
                for many in range(letters, 4):
                    result = widen(machine, many)
                    self.assertTrue(is_machine(result) and is_least(result))
                    self.assertEqual(result[0], many)
                    for word in words_up_to(many, 4):
                        self.assertIs(accepted(result, word), accepted(machine, word))

    def test_bad_number(self):
        for machine, letters in ((GOLDEN, 1), (GOLDEN, 0), (GOLDEN, 7), (ALL_ONES, 0), (ALL_ONES, -1), (NOTHING, 7),
                                 ((6, (), ()), 5), ((6, (), ()), 7), (GOLDEN, HUGE), (GOLDEN, -HUGE)):
            with self.assertRaises(BadNumber):
                widen(machine, letters)
        self.assertEqual(widen((6, (), ()), 6), (6, (), ()))

    def test_no_machine_comes_first(self):
        for machine in NOT_MACHINES:
            for letters in (0, 1, 6, 7):
                with self.assertRaises(NotMachine):
                    widen(machine, letters)


class IncludesTest(unittest.TestCase):
    def test_ordinary(self):
        self.assertIs(includes(ALL_ONES, circle(5)), True)
        self.assertIs(includes(circle(5), ALL_ONES), False)
        self.assertIs(includes(circle(3), circle(6)), True)
        self.assertIs(includes(circle(6), circle(3)), False)
        self.assertIs(includes(GOLDEN, GOLDEN), True)

    def test_no_words(self):
        for machine in (GOLDEN, ALL_ONES, NOTHING, (6, (), ())):
            self.assertIs(includes(machine, NOTHING), True)
            self.assertIs(includes(machine, (6, (False,), ((0,) * 6,))), True)
        self.assertIs(includes(NOTHING, GOLDEN), False)
        self.assertIs(includes((6, (), ()), EMPTY_WORD), False)
        self.assertIs(includes((1, (False,), ((0,),)), ALL_ONES), False)

    def test_other_letters(self):
        self.assertIs(includes(GOLDEN, ALL_ONES), True)
        self.assertIs(includes(ALL_ONES, GOLDEN), False)
        self.assertIs(includes(ALL_ONES, widen(ALL_ONES, 6)), True)
        self.assertIs(includes(ALL_ONES, (2, (True, False), ((0, 1), (1, 1)))), True)
        self.assertIs(includes(ALL_ONES, (2, (True,), ((0, 0),))), False)

    def test_random_machines(self):
        for letters, more in ((1, 1), (1, 2), (2, 1), (2, 2)):
            for one in machines(15, 40, letters):
                for other in machines(15, 50, more):
                    expected = all(accepted(one, word) for word in words_up_to(more, 6) if accepted(other, word))
                    self.assertIs(includes(one, other), expected)

    def test_large_machines(self):
        self.assertIs(includes(circle(400), circle(401)), False)
        self.assertIs(includes(circle(1000), circle(2000)), True)
        self.assertIs(includes(circle(2000), circle(1000)), False)
        self.assertIs(includes(ALL_ONES, chain(2000)), True)
        self.assertIs(includes(chain(2000), chain(2000)), True)

    def test_no_machine(self):
        for machine in NOT_MACHINES:
            for one, other in ((machine, GOLDEN), (GOLDEN, machine), (machine, machine)):
                with self.assertRaises(NotMachine):
                    includes(one, other)


if __name__ == "__main__":
    unittest.main()
