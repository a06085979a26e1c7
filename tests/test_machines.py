import random
import unittest

from oracles import (accepted, chain, circle, differing, first_words, is_least, random_machine, state_behind,
                     words_up_to)
from yardsort.errors import NotMachine, NotWord, OtherLetters
from yardsort.machines import Walker, accepts, check_machine, is_machine, least, same_words

HUGE = 10 ** 5000
GOLDEN = (2, (True, False), ((0, 1), (0, -1)))
ALL_ONES = (1, (True,), ((0,),))
NOTHING = (1, (), ())
MACHINES = (GOLDEN, ALL_ONES, NOTHING, (6, (), ()), (6, (True,), ((-1,) * 6,)), (1, (False,), ((-1,),)),
            (3, (False, True, True), ((1, 2, -1), (0, 0, 0), (2, -1, 1))), circle(2000), chain(2000))
NOT_MACHINES = (
    (0, (), ()), (7, (), ()), (-1, (), ()), (HUGE, (), ()), (0, (True,), ((),)), (7, (True,), ((0,) * 7,)),
    (1, (True,), ()), (1, (), ((0,),)), (1, (True,), ((0,), (0,))), (1, (True, True), ((0,),)),
    (2, (True,), ((0,),)), (2, (True,), ((0, 0, 0),)), (1, (True,), ((),)), (2, (True, True), ((0, 0), (0,))),
    (2, (True, True), ((0,), (0, 0))), (1, (True,), ((1,),)), (1, (True,), ((-2,),)), (1, (True,), ((HUGE,),)),
    (1, (True,), ((-HUGE,),)), (2, (True, False), ((0, 1), (0, 2))), (2, (True, False), ((0, -2), (0, 1))),
    circle(2001), chain(2001))


def machines(count, seed):
    source = random.Random(seed)
    return [random_machine(source, source.randint(1, 3), source.randint(0, 5)) for _ in range(count)]


def renumbered(machine, order):
    """The machine whose state `order[k]` was the state k."""
    letters, accepting, table = machine
    back = [order.index(state) for state in range(len(order))]
    rows = [tuple(-1 if target == -1 else order[target] for target in table[state]) for state in back]
    return (letters, tuple(accepting[state] for state in back), tuple(rows))


class IsMachineTest(unittest.TestCase):
    def test_machines(self):
        for machine in MACHINES:
            self.assertIs(is_machine(machine), True)
            self.assertIsNone(check_machine(machine))

    def test_other_tuples(self):
        for machine in NOT_MACHINES:
            self.assertIs(is_machine(machine), False)
            with self.assertRaises(NotMachine):
                check_machine(machine)

    def test_numbers_of_letters(self):
        for letters in range(-1, 9):
            self.assertIs(is_machine((letters, (), ())), 1 <= letters <= 6)
            self.assertIs(is_machine((letters, (False,), ((0,) * max(letters, 0),))), 1 <= letters <= 6)

    def test_2000_states_and_2001(self):
        for states, expected in ((1999, True), (2000, True), (2001, False)):
            self.assertIs(is_machine((2, (False,) * states, ((0, -1),) * states)), expected)


class AcceptsTest(unittest.TestCase):
    def test_example(self):
        for word in words_up_to(2, 6):
            good = all(word[at + 1:at + 2] == [1] for at, letter in enumerate(word) if letter == 2)
            self.assertIs(accepts(GOLDEN, word), good, word)

    def test_all_ones(self):
        for size in range(5):
            self.assertIs(accepts(ALL_ONES, [1] * size), True)
        self.assertIs(accepts(ALL_ONES, [1] * 5000), True)

    def test_empty_word(self):
        self.assertIs(accepts(NOTHING, []), False)
        self.assertIs(accepts(GOLDEN, []), True)
        self.assertIs(accepts((1, (False, True), ((1,), (1,))), []), False)

    def test_machine_without_states(self):
        for word in ([], [1], [2], [HUGE]):
            self.assertIs(accepts(NOTHING, word), False)

    def test_letters_that_the_machine_does_not_have(self):
        for word in ([2], [1, 2], [2, 1], [7], [HUGE], [1, HUGE, 1]):
            self.assertIs(accepts(ALL_ONES, word), False)

    def test_letters_that_lead_nowhere(self):
        self.assertIs(accepts(GOLDEN, [2, 2]), False)
        self.assertIs(accepts(GOLDEN, [2, 2, 1]), False)
        self.assertIs(accepts((2, (True, True), ((-1, 0), (0, 0))), [1, 1]), False)

    def test_random_machines(self):
        for machine in machines(60, 1):
            for word in words_up_to(machine[0] + 1, 3):
                self.assertIs(accepts(machine, word), accepted(machine, word))

    def test_letters_less_than_1(self):
        for machine in (GOLDEN, NOTHING, ALL_ONES):
            for word in ([0], [-1], [-HUGE], [1, 0], [2, 2, 0], [9, 0], [HUGE, -1], [0, 1]):
                with self.assertRaises(NotWord):
                    accepts(machine, word)

    def test_no_machine_comes_first(self):
        for machine in NOT_MACHINES:
            for word in ([], [1], [0]):
                with self.assertRaises(NotMachine):
                    accepts(machine, word)


class LeastTest(unittest.TestCase):
    def test_examples(self):
        self.assertEqual(least((1, (True, True), ((1,), (0,)))), ALL_ONES)
        self.assertEqual(least(GOLDEN), GOLDEN)
        self.assertEqual(least(NOTHING), NOTHING)

    def test_no_words(self):
        for machine in ((2, (), ()), (2, (False,), ((0, 0),)), (2, (False, True), ((0, -1), (1, 1))),
                        (2, (False, False), ((1, 0), (0, 1)))):
            self.assertEqual(least(machine), (2, (), ()))

    def test_states_that_are_not_useful(self):
        self.assertEqual(least((1, (True, False), ((1,), (1,)))), (1, (True,), ((-1,),)))
        self.assertEqual(least((1, (True, True), ((0,), (0,)))), ALL_ONES)
        self.assertEqual(least((2, (False, True, False, True), ((1, 2), (-1, 2), (2, 2), (1, 0)))),
                         (2, (False, True), ((1, -1), (-1, -1))))

    def test_states_that_are_alike(self):
        machine = (2, (False, True, True), ((1, 2), (0, -1), (0, -1)))
        self.assertEqual(least(machine), (2, (False, True), ((1, 1), (0, -1))))

    def test_a_lost_word_is_not_like_one_that_goes_on(self):
        machine = (1, (False, False, True), ((1,), (2,), (-1,)))
        self.assertEqual(least(machine), machine)
        machine = (2, (True, True), ((1, -1), (1, 1)))
        self.assertEqual(least(machine), machine)

    def test_numbers_follow_the_first_words(self):
        self.assertEqual(least((2, (False, True, False), ((2, 1), (-1, -1), (1, 1)))),
                         (2, (False, False, True), ((1, 2), (2, 2), (-1, -1))))
        self.assertEqual(least((2, (False, False, False, True), ((3, 2), (3, -1), (1, 0), (0, 0)))),
                         least((2, (False, True, False, False), ((1, 2), (0, 0), (3, 0), (1, -1)))))

    def test_random_machines(self):
        for machine in machines(150, 2):
            result = least(machine)
            self.assertIs(is_machine(result), True)
            self.assertTrue(is_least(result), machine)
            self.assertEqual(result[0], machine[0])
            self.assertTrue(all(flag is True or flag is False for flag in result[1]))
            for word in words_up_to(machine[0], 5):
                self.assertIs(accepted(result, word), accepted(machine, word))

    def test_number_of_states(self):
        for machine in machines(150, 3):
            pairs = differing(machine)
            useful = [state for state in first_words(machine) if (state, -1) in pairs]
            kinds = [state for at, state in enumerate(useful)
                     if all((state, other) in pairs for other in useful[:at])]
            self.assertEqual(len(least(machine)[1]), len(kinds) if 0 in useful else 0)

    def test_there_is_one_least_machine(self):
        source = random.Random(4)
        for machine in machines(60, 5):
            if machine[1]:
                order = list(range(1, len(machine[1])))
                source.shuffle(order)
                self.assertEqual(least(renumbered(machine, [0] + order)), least(machine))
            self.assertEqual(least(least(machine)), least(machine))

    def test_2000_states(self):
        for machine in (circle(2000), chain(2000), circle(2000, 6), circle(2000, 2, (0, 7))):
            self.assertEqual(least(machine), machine)
        self.assertEqual(least(circle(2000, 1, tuple(range(0, 2000, 2)))), circle(2))
        self.assertEqual(least(circle(2000, 6, tuple(range(0, 2000, 40)))), circle(40, 6))
        self.assertEqual(least(circle(2000, 1, ())), NOTHING)

    def test_no_machine(self):
        for machine in NOT_MACHINES:
            with self.assertRaises(NotMachine):
                least(machine)


class SameWordsTest(unittest.TestCase):
    def test_ordinary(self):
        self.assertIs(same_words(ALL_ONES, (1, (True, True), ((1,), (0,)))), True)
        self.assertIs(same_words(ALL_ONES, (1, (True, False), ((1,), (0,)))), False)
        self.assertIs(same_words(NOTHING, (1, (False,), ((0,),))), True)
        self.assertIs(same_words(NOTHING, ALL_ONES), False)
        self.assertIs(same_words(circle(2000), chain(2000)), False)

    def test_random_machines(self):
        for one in machines(25, 6):
            for other in machines(25, 7):
                if one[0] == other[0]:
                    same = all(accepted(one, word) == accepted(other, word) for word in words_up_to(one[0], 7))
                    self.assertIs(same_words(one, other), same)

    def test_other_letters(self):
        for one, other in ((GOLDEN, ALL_ONES), (ALL_ONES, GOLDEN), ((1, (), ()), (2, (), ())), ((6, (), ()), (5, (), ()))):
            with self.assertRaises(OtherLetters):
                same_words(one, other)

    def test_no_machine_comes_first(self):
        for machine in NOT_MACHINES:
            for one, other in ((machine, GOLDEN), (GOLDEN, machine), (machine, machine), (ALL_ONES, machine)):
                with self.assertRaises(NotMachine):
                    same_words(one, other)


class WalkerTest(unittest.TestCase):
    def test_example(self):
        walker = Walker(GOLDEN)
        self.assertEqual(walker.state, 0)
        self.assertIs(walker.is_accepted, True)
        seen = []
        for letter in (1, 2, 1, 2, 2, 1):
            self.assertIsNone(walker.read(letter))
            seen.append((walker.state, walker.is_accepted))
        self.assertEqual(seen, [(0, True), (1, False), (0, True), (1, False), (-1, False), (-1, False)])

    def test_machine_without_states(self):
        walker = Walker(NOTHING)
        self.assertEqual(walker.state, -1)
        self.assertIs(walker.is_accepted, False)
        walker.read(1)
        self.assertEqual(walker.state, -1)
        self.assertIs(walker.is_accepted, False)

    def test_letters_that_the_machine_does_not_have(self):
        for letter in (2, 7, HUGE):
            walker = Walker(ALL_ONES)
            walker.read(letter)
            self.assertEqual(walker.state, -1)
            self.assertIs(walker.is_accepted, False)
            walker.read(1)
            self.assertEqual(walker.state, -1)

    def test_letters_less_than_1_change_nothing(self):
        walker = Walker(GOLDEN)
        for _ in range(3):
            before = walker.state
            for letter in (0, -1, -HUGE):
                with self.assertRaises(NotWord):
                    walker.read(letter)
                self.assertEqual(walker.state, before)
                self.assertIs(walker.is_accepted, before == 0)
            walker.read(2)
        walker = Walker(NOTHING)
        with self.assertRaises(NotWord):
            walker.read(0)
        self.assertEqual(walker.state, -1)

    def test_random_machines(self):
        for machine in machines(30, 8):
            for word in words_up_to(machine[0] + 1, 3):
                walker = Walker(machine)
                for at, letter in enumerate(word):
                    self.assertEqual(walker.state, state_behind(machine, word[:at]))
                    self.assertIs(walker.is_accepted, accepted(machine, word[:at]))
                    walker.read(letter)
                self.assertEqual(walker.state, state_behind(machine, word))
                self.assertIs(walker.is_accepted, accepted(machine, word))

    def test_walkers_are_independent(self):
        one, other = Walker(GOLDEN), Walker(GOLDEN)
        one.read(2)
        self.assertEqual((one.state, other.state), (1, 0))

    def test_is_accepted_is_a_property(self):
        self.assertIsInstance(Walker.__dict__["is_accepted"], property)

    def test_no_machine(self):
        for machine in NOT_MACHINES:
            with self.assertRaises(NotMachine):
                Walker(machine)


class ArgumentsTest(unittest.TestCase):
    def test_words_stay(self):
        word = [1, 2, 1]
        accepts(GOLDEN, word)
        self.assertEqual(word, [1, 2, 1])


if __name__ == "__main__":
    unittest.main()
