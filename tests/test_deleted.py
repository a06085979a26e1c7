import random
import unittest

from oracles import accepted, chain, circle, code, is_least, one_too_many, random_machine, rows_up_to, words_up_to
from yardsort.deleted import is_one_too_many, lost
from yardsort.errors import NotMachine, NotRow, TooLarge
from yardsort.language import machine_of
from yardsort.machines import is_machine, least

GOLDEN = (2, (True, False), ((0, 1), (0, -1)))
ALL_ONES = (1, (True,), ((0,),))
NOTHING = (1, (), ())
EMPTY_WORD = (1, (True,), ((-1,),))
# It accepts every word of its letters, codes and others.
EVERY_WORD = (3, (True,), ((0, 0, 0),))
YARDS = ("s1", "s2", "s3", "q3", "d3", "[s1 q2]", "[s2 s2]", "[s1 s1 q2]", "d4", "i4", "o4")
NOT_MACHINES = ((0, (), ()), (7, (), ()), (1, (True,), ()), (1, (), ((0,),)), (2, (True,), ((0,),)),
                (5, (True,), ((1,) * 5,)), (1, (True,), ((-2,),)), circle(2001))
NOT_ROWS = ([0], [2], [1, 1], [1, 3], list(range(1, 62)))


def machines(count, seed):
    source = random.Random(seed)
    found = []
    for _ in range(count):
        letters, accepting, table = random_machine(source, source.randint(1, 4), source.randint(0, 4))
        flags = tuple(flag or source.random() < 0.5 for flag in accepting)
        found.append((letters, flags, table))
    return found


def padded(base, source):
    """A machine of 40 states that accepts the same codes as a machine of at most 2 states.

    Each state is one of the base in one of several forms. The letter 1 leads
    to the forms below the half, which accept as the base does; at the others
    no code ends, so it does not matter whether they accept.
    """
    letters, accepting, rows = base
    size = len(accepting)
    forms = 40 // size
    flags, table = [], []
    for state in range(40):
        plain = state % size
        low, high = source.randrange(forms // 2), [source.randrange(forms) for _ in range(letters)]
        flags.append(accepting[plain] if state < 20 else source.random() < 0.5)
        table.append(tuple(-1 if target == -1 else target + size * (low if letter == 0 else high[letter])
                           for letter, target in enumerate(rows[plain])))
    return (letters, tuple(flags), tuple(table))


class LostTest(unittest.TestCase):
    def check(self, machine, longest):
        found = lost(machine)
        self.assertEqual(found[0], machine[0] + 1)
        self.assertTrue(is_machine(found))
        self.assertTrue(is_least(found))
        for row in rows_up_to(longest):
            self.assertEqual(accepted(found, code(row)), one_too_many(machine, row), (machine, row))

    def test_examples(self):
        found = lost(ALL_ONES)
        self.assertEqual(found[0], 2)
        for word in words_up_to(3, 6):
            self.assertEqual(accepted(found, word), word == [2, 1] or word == [1] * len(word))
        self.assertEqual(found, (2, (True, True, False, True), ((1, 2), (1, -1), (3, -1), (-1, -1))))

    def test_the_empty_row_and_one_wagon(self):
        for machine in (NOTHING, (4, (), ()), (2, (False,), ((0, 0),)), (1, (False, True), ((1,), (1,)))):
            self.assertTrue(accepted(lost(machine), []))
            self.assertFalse(accepted(lost(machine), [1]))
        for machine in (EMPTY_WORD, ALL_ONES, GOLDEN, EVERY_WORD):
            self.assertTrue(accepted(lost(machine), []))
            self.assertTrue(accepted(lost(machine), [1]))
        self.assertEqual(lost(NOTHING), (2, (True,), ((-1, -1),)))
        self.assertEqual(lost(EMPTY_WORD), (2, (True, True), ((1, -1), (-1, -1))))

    def test_yards(self):
        for text in YARDS:
            self.check(machine_of(text), 5)

    def test_machines_that_accept_words_that_are_not_codes(self):
        for machine in (EVERY_WORD, (2, (True,), ((0, 0),)), (2, (True, True), ((1, 1), (0, -1))), (4, (True,), ((0,) * 4,)),
                        (1, (True, False, False), ((1,), (2,), (0,))), circle(3, 2, (0, 1))):
            self.check(machine, 5)
            found = lost(machine)
            for word in words_up_to(found[0], 4):
                if any(letter > len(word) - at for at, letter in enumerate(word)):
                    self.assertFalse(accepted(found, word))

    def test_random_machines(self):
        for machine in machines(60, 1):
            self.check(machine, 5)

    def test_longer_rows(self):
        for machine in (machine_of("s2"), machine_of("d3"), circle(4, 2, (0, 1, 3))):
            self.check(machine, 6)

    def test_only_the_words_count(self):
        for machine in machines(40, 2):
            self.assertEqual(lost(machine), lost(least(machine)))

    def test_4_letters_and_5(self):
        self.check((4, (True, False), ((0, 1, 1, 0), (0, -1, 1, 0))), 5)
        self.assertEqual(lost((4, (), ())), (5, (True,), ((-1,) * 5,)))
        for machine in ((5, (), ()), (6, (), ()), (5, (True,), ((0,) * 5,)), (6, (True,), ((-1,) * 6,))):
            with self.assertRaises(TooLarge):
                lost(machine)

    def test_40_states_and_41(self):
        for letters in (1, 2, 4):
            self.check(circle(40, letters, (2, 3, 5)), 4)
            self.check(circle(40, letters, tuple(range(40))), 4)
            with self.assertRaises(TooLarge):
                lost(circle(41, letters))
        self.check(chain(40), 4)
        self.assertTrue(accepted(lost(chain(40)), [1] * 40))
        self.assertFalse(accepted(lost(chain(40)), [1] * 39))
        with self.assertRaises(TooLarge):
            lost(chain(41))
        with self.assertRaises(TooLarge):
            lost((1, (True,) * 41, ((0,),) * 41))

    def test_the_machine_with_many_readings(self):
        table = tuple(((7 * s + 3) % 20, (11 * s * s + s + 1) % 40, (13 * s + 29) % 40) for s in range(40))
        found = lost((3, tuple(s < 20 for s in range(40)), table))
        self.assertEqual(found, (4, (True, True, False, False, False, False, False, True),
                                 ((1, 2, 3, 4), (1, 2, 3, -1), (1, 2, 3, -1), (2, 2, 3, -1), (5, 5, 5, -1), (6, 6, -1, -1),
                                  (7, -1, -1, -1), (-1, -1, -1, -1))))
        self.assertEqual(found, lost(EVERY_WORD))

    def test_machines_of_40_states_that_differ_in_words_that_are_no_codes(self):
        source = random.Random(6)
        for letters in (2, 3, 4):
            for base in ((letters, (True,), ((0,) * letters,)), (letters, (True, False), ((0, 1) + (1,) * (letters - 2),) * 2),
                         circle(2, letters, (0,)), random_machine(source, letters, 2)):
                machine = padded(base, source)
                self.assertEqual(len(machine[1]), 40)
                self.assertEqual(lost(machine), lost(base), base)

    def test_machines_of_40_states_that_count(self):
        # Most readings of these machines lead to no code; all of them would be too many to walk through.
        for letters, steps, states, ends in ((2, (1, 2), 40, (0,)), (3, (1, 2, 3), 40, (0, 20)), (3, (0, 1, 2), 20, (1, 2)),
                                             (4, (1, 0, 0, 0), 40, (2, 3)), (4, (0, 1, 2, 3), 10, (2,))):
            table = tuple(tuple((state + step) % states for step in steps) for state in range(states))
            machine = (letters, tuple(state in ends for state in range(states)), table)
            found = lost(machine)
            for row in rows_up_to(5) + [list(range(1, count)) for count in range(7, 44)]:
                self.assertEqual(accepted(found, code(row)), one_too_many(machine, row), (machine, row))

    def test_machines_whose_states_never_meet(self):
        source = random.Random(8)
        for _ in range(30):
            letters, states = source.randint(1, 3), source.randint(1, 5)
            orders = [source.sample(range(states), states) for _ in range(letters)]
            table = tuple(tuple(order[state] for order in orders) for state in range(states))
            ends = source.sample(range(states), source.randint(1, 2) if states > 2 else 1)
            self.check((letters, tuple(state in ends for state in range(states)), table), 5)

    def test_many_states_in_the_result(self):
        source = random.Random(7)
        table = tuple(tuple(source.randrange(9) for _ in range(4)) for _ in range(9))
        machine = (4, tuple(state % 3 > 0 for state in range(9)), table)
        found = lost(machine)
        self.assertEqual(found, least(found))
        self.assertGreater(len(found[1]), 1000)
        for row in rows_up_to(6):
            self.assertEqual(accepted(found, code(row)), one_too_many(machine, row))

    def test_no_machine_comes_first(self):
        for machine in NOT_MACHINES:
            with self.assertRaises(NotMachine):
                lost(machine)


class IsOneTooManyTest(unittest.TestCase):
    def test_ordinary(self):
        self.assertIs(is_one_too_many(ALL_ONES, [2, 1]), True)
        self.assertIs(is_one_too_many(ALL_ONES, [1, 2, 3]), True)
        self.assertIs(is_one_too_many(ALL_ONES, [3, 2, 1]), False)
        self.assertIs(is_one_too_many(ALL_ONES, [1, 3, 2]), False)

    def test_the_empty_row_and_one_wagon(self):
        for machine in (NOTHING, EMPTY_WORD, GOLDEN, (6, (), ())):
            self.assertIs(is_one_too_many(machine, []), True)
            self.assertIs(is_one_too_many(machine, [1]), accepted(machine, []))

    def test_against_the_definition(self):
        for machine in machines(30, 3) + [machine_of(text) for text in YARDS]:
            for row in rows_up_to(4):
                self.assertIs(is_one_too_many(machine, row), one_too_many(machine, row))

    def test_machines_of_any_size(self):
        self.assertIs(is_one_too_many(circle(2000, 6, (2,)), [3, 1, 2]), True)
        self.assertIs(is_one_too_many(circle(2000, 6, (3,)), [3, 1, 2]), False)
        self.assertIs(is_one_too_many((1, (True,), ((0,),)), list(range(1, 61))), True)
        self.assertIs(is_one_too_many((1, (True,), ((0,),)), list(range(60, 0, -1))), False)

    def test_errors_in_order(self):
        for machine in NOT_MACHINES:
            for row in ([1], [1, 1]):
                with self.assertRaises(NotMachine):
                    is_one_too_many(machine, row)
        for row in NOT_ROWS:
            with self.assertRaises(NotRow):
                is_one_too_many(GOLDEN, row)

    def test_arguments_stay(self):
        row = [3, 1, 2]
        is_one_too_many(GOLDEN, row)
        self.assertEqual(row, [3, 1, 2])


if __name__ == "__main__":
    unittest.main()
