import random
import unittest

from oracles import accepted, accepts_words_for_ever, chain, circle, random_machine, words_up_to, words_with
from yardsort.errors import BadNumber, Malformed, NotMachine, TooLarge
from yardsort.machines import is_machine, least, same_words
from yardsort.products import complement, difference, union
from yardsort.wordlists import is_finite, machine_text, pump, read_machine, shortest, words_of_length

HUGE = 10 ** 5000
GOLDEN = (2, (True, False), ((0, 1), (0, -1)))
ALL_ONES = (1, (True,), ((0,),))
NOTHING = (1, (), ())
NO_WORDS = (2, (False, True), ((0, -1), (1, 1)))
EMPTY_WORD = (1, (True,), ((-1,),))
# A circle that leads to no accepting state, and one that no word reaches.
SIDE_CIRCLES = (2, (False, True, False, True), ((1, 2), (-1, -1), (2, 2), (3, 1)))
NOT_MACHINES = ((0, (), ()), (7, (), ()), (1, (True,), ()), (1, (), ((0,),)), (2, (True,), ((0,),)),
                (1, (True,), ((1,),)), (1, (True,), ((-2,),)), circle(2001))


def machines(count, seed, letters=3, states=5):
    source = random.Random(seed)
    return [random_machine(source, source.randint(1, letters), source.randint(0, states)) for _ in range(count)]


def choices(sizes):
    """The machine of the words whose k-th letter is one of the first `sizes[k]` letters."""
    rows = [tuple(at + 1 if letter < size else -1 for letter in range(6)) for at, size in enumerate(sizes)]
    return (6, (False,) * len(sizes) + (True,), tuple(rows) + ((-1,) * 6,))


class ShortestTest(unittest.TestCase):
    def test_examples(self):
        self.assertEqual(shortest(GOLDEN), [])
        self.assertEqual(shortest(complement(GOLDEN)), [2])

    def test_nothing_and_the_empty_word(self):
        for machine in (NOTHING, (6, (), ()), NO_WORDS, (1, (False,), ((0,),))):
            self.assertIsNone(shortest(machine))
        for machine in (EMPTY_WORD, ALL_ONES):
            self.assertEqual(shortest(machine), [])

    def test_shorter_words_come_first_then_lesser_letters(self):
        self.assertEqual(shortest((2, (False, False, True), ((1, 2), (2, 2), (0, 0)))), [2])
        self.assertEqual(shortest((2, (False, False, False, True), ((1, 2), (-1, 3), (3, -1), (-1, -1)))), [1, 2])
        self.assertEqual(shortest((2, (False, False, False, True), ((2, 1), (3, -1), (-1, 3), (-1, -1)))), [1, 2])

    def test_random_machines(self):
        for machine in machines(150, 1):
            words = [word for word in words_up_to(machine[0], 5) if accepted(machine, word)]
            self.assertEqual(shortest(machine), words[0] if words else None)

    def test_2000_states(self):
        self.assertEqual(shortest(chain(2000)), [1] * 1999)
        self.assertEqual(shortest(circle(2000, 6, (1999,))), [1] * 1999)

    def test_a_difference_tells_machines_apart(self):
        for one in machines(20, 2, 2, 4):
            for other in machines(20, 3, 2, 4):
                if one[0] == other[0]:
                    words = [shortest(difference(one, other)), shortest(difference(other, one))]
                    self.assertEqual(same_words(one, other), words == [None, None])
                    self.assertTrue(all(accepted(one, word) != accepted(other, word) for word in words if word is not None))

    def test_no_machine(self):
        for machine in NOT_MACHINES:
            with self.assertRaises(NotMachine):
                shortest(machine)


class WordsOfLengthTest(unittest.TestCase):
    def test_ordinary(self):
        self.assertEqual(words_of_length(GOLDEN, 3), [[1, 1, 1], [1, 2, 1], [2, 1, 1]])
        self.assertEqual(words_of_length(complement(GOLDEN), 2), [[1, 2], [2, 2]])
        self.assertEqual(words_of_length(NOTHING, 3), [])
        self.assertEqual(words_of_length(SIDE_CIRCLES, 1), [[1]])

    def test_length_0(self):
        self.assertEqual(words_of_length(GOLDEN, 0), [[]])
        self.assertEqual(words_of_length(EMPTY_WORD, 0), [[]])
        for machine in (NOTHING, NO_WORDS, chain(3)):
            self.assertEqual(words_of_length(machine, 0), [])

    def test_lengths_up_to_60(self):
        for length in (59, 60):
            self.assertEqual(words_of_length(ALL_ONES, length), [[1] * length])
            self.assertEqual(words_of_length(EMPTY_WORD, length), [])
        self.assertEqual(words_of_length(chain(61), 60), [[1] * 60])
        self.assertEqual(words_of_length(chain(62), 60), [])

    def test_random_machines(self):
        for machine in machines(80, 4):
            for length in range(6):
                self.assertEqual(words_of_length(machine, length), words_with(machine, length))

    def test_2000_words_and_more(self):
        sizes = [5, 5, 5, 2, 2, 2, 2]
        for length in (7, 60):
            exact = choices([1] * (length - 7) + sizes)
            words = words_of_length(exact, length)
            self.assertEqual(len(words), 2000)
            self.assertEqual(words, sorted(words))
            self.assertEqual(words[-1], [1] * (length - 7) + sizes)
            more = union(exact, choices([1] * (length - 1) + [3]))
            with self.assertRaises(TooLarge):
                words_of_length(more, length)
        with self.assertRaises(TooLarge):
            words_of_length((6, (True,), ((0,) * 6,)), 60)
        # Beginnings that lead to no accepted word of the length do not count.
        self.assertEqual(len(words_of_length((6, (False, True), ((0,) * 5 + (1,), (-1,) * 6)), 2)), 5)
        self.assertEqual(words_of_length(union(chain(61), (1, (False,), ((0,),))), 60), [[1] * 60])

    def test_bad_number(self):
        for machine in (GOLDEN, NOTHING, (6, (True,), ((0,) * 6,))):
            for length in (-1, 61, -HUGE, HUGE):
                with self.assertRaises(BadNumber):
                    words_of_length(machine, length)

    def test_no_machine_comes_first(self):
        for machine in NOT_MACHINES:
            for length in (-1, 0, 61):
                with self.assertRaises(NotMachine):
                    words_of_length(machine, length)

    def test_results_are_new(self):
        words_of_length(GOLDEN, 2)[0].append(7)
        self.assertEqual(words_of_length(GOLDEN, 2), [[1, 1], [2, 1]])


class PumpTest(unittest.TestCase):
    def check(self, machine):
        found = pump(machine)
        self.assertIs(is_finite(machine), found is None)
        self.assertIs(is_finite(machine), not accepts_words_for_ever(machine))
        if found is not None:
            before, middle, behind = found
            self.assertTrue(isinstance(found, tuple) and all(isinstance(word, list) for word in found))
            self.assertGreater(len(middle), 0)
            self.assertLessEqual(len(before + middle + behind), 3 * len(machine[1]))
            for times in (0, 1, 2, 3, 7):
                self.assertTrue(accepted(machine, before + middle * times + behind))

    def test_infinitely_many_words(self):
        for machine in (GOLDEN, ALL_ONES, complement(GOLDEN), circle(7), circle(2000, 2), circle(5, 3, (4,)),
                        (2, (False, True), ((0, 1), (-1, -1))), (2, (False, False, True), ((1, -1), (-1, 2), (0, -1)))):
            self.assertIs(is_finite(machine), False)
            self.check(machine)

    def test_finitely_many_words(self):
        for machine in (NOTHING, EMPTY_WORD, NO_WORDS, SIDE_CIRCLES, chain(1), chain(2000), (6, (), ()),
                        (1, (False,), ((0,),)), choices([6, 6, 6])):
            self.assertIs(is_finite(machine), True)
            self.assertIsNone(pump(machine))

    def test_random_machines(self):
        for machine in machines(200, 5, 3, 7):
            self.check(machine)
        source = random.Random(6)
        for _ in range(100):
            letters, accepting, table = random_machine(source, 2, 7)
            steps = tuple(tuple(-1 if target <= state and source.random() < 0.8 else target for target in row)
                          for state, row in enumerate(table))
            self.check((letters, accepting, steps))

    def test_no_machine(self):
        for machine in NOT_MACHINES:
            for function in (pump, is_finite):
                with self.assertRaises(NotMachine):
                    function(machine)

    def test_results_are_new(self):
        for word in pump(GOLDEN):
            word.append(9)
        self.check(GOLDEN)


class MachineTextTest(unittest.TestCase):
    def test_examples(self):
        self.assertEqual(machine_text(GOLDEN), "2\n+ 0 1\n- 0 .")
        self.assertEqual(machine_text(NOTHING), "1")
        self.assertEqual(machine_text((6, (False,), ((0, -1, 0, -1, 0, -1),))), "6\n- 0 . 0 . 0 .")
        self.assertEqual(read_machine("2\n+ 0 1\n- 0 ."), GOLDEN)
        self.assertEqual(read_machine("6"), (6, (), ()))

    def test_the_states_need_not_be_least(self):
        machine = (1, (True, True, False), ((1,), (0,), (2,)))
        self.assertEqual(machine_text(machine), "1\n+ 1\n+ 0\n- 2")
        self.assertEqual(read_machine("1\n+ 1\n+ 0\n- 2"), machine)

    def test_there_and_back(self):
        for machine in machines(100, 7, 6, 15) + [circle(2000), chain(2000), circle(1001, 6)]:
            found = read_machine(machine_text(machine))
            self.assertEqual(found, machine)
            self.assertTrue(is_machine(found))
            self.assertTrue(all(flag is True or flag is False for flag in found[1]))

    def test_no_machine(self):
        for machine in NOT_MACHINES:
            with self.assertRaises(NotMachine):
                machine_text(machine)


class ReadMachineTest(unittest.TestCase):
    def check(self, text, at):
        with self.assertRaises(Malformed) as caught:
            read_machine(text)
        self.assertEqual(caught.exception.at, at, text[:50])

    def test_fault_at_line_0(self):
        for head in ("", "0", "7", "9", "01", "11", "10", "-1", "+1", " 1", "1 ", "a", "1.", "\u0661", "+ 0", "1" * 5000):
            self.check(head, 0)
            self.check(head + "\n+ 0", 0)
            self.check(head + "\nx\n", 0)
        self.check("\n1\n+ 0", 0)

    def test_fault_at_a_line_of_a_state(self):
        wrong = ("", "+", "-", "+ ", "+ 0 ", " + 0", "+  0", "+ 0 0", "+ 00", "+ 01", "+ -1", "+ +0", "* 0", "+0", "0 +",
                 "+ x", "+ ..", "+ 0.", "+\t0", "+ 0\r", "+ \u0661", "++ 0", "+- 0", "0", ".", ". 0", "+ 3", "+ 4",
                 "+ " + "9" * 5000, "+ 1_0", "\u2212 0")
        for line in wrong:
            self.check(f"1\n{line}\n+ 0\n- .", 1)
            self.check(f"1\n+ 0\n{line}\n- .", 2)
            self.check(f"1\n+ 0\n- .\n{line}", 3)
            self.check(f"1\n+ 0\n{line}\n{line}", 2)

    def test_numbers_of_entries(self):
        self.check("2\n+ 0", 1)
        self.check("2\n+ 0 0 0", 1)
        self.check("2\n+ 0 0\n- . . .", 2)
        self.check("6\n+ 0 0 0 0 0", 1)

    def test_numbers_of_states(self):
        self.assertEqual(read_machine("1\n+ 1\n- 0"), (1, (True, False), ((1,), (0,))))
        self.check("1\n+ 1", 1)
        self.check("1\n+ 1\n- 2", 2)
        self.check("1\n+ 10\n" + "\n".join(["- 9"] * 9), 1)
        self.assertEqual(read_machine("1\n+ 10\n" + "\n".join(["- 9"] * 10))[2][0], (10,))

    def test_newlines_at_the_end(self):
        self.check("1\n", 1)
        self.check("1\n+ 0\n", 2)
        self.check("1\n\n+ 0", 1)
        self.check("1\n+ 0\n\n", 2)

    def test_2000_states_and_more(self):
        for letters in (1, 2):
            line = "+ " + " ".join(["1999"] * letters)
            head = str(letters)
            self.assertEqual(len(read_machine("\n".join([head] + [line] * 2000))[1]), 2000)
            for states in (2001, 2002, 2500):
                self.check("\n".join([head] + [line] * states), 2001)
                self.check("\n".join([head] + [line.replace("1999", str(states - 1))] * states), 2001)
                self.check("\n".join([head] + [line.replace("1999", str(states))] * states), 1)
                self.check("\n".join([head] + [line] * (states - 1) + [line + " "]), states)
                self.check("\n".join([head] + [line] * 999 + [""] + [line] * (states - 1000)), 1000)
                self.check("\n".join(["7"] + [line] * states), 0)

    def test_every_change_of_a_text_is_a_fault_or_another_machine(self):
        text = "2\n+ 0 1\n- 0 ."
        for at in range(len(text) + 1):
            for sign in "012.+- \nx":
                for other in (text[:at] + sign + text[at:], text[:at] + sign + text[at + 1:], text[:at] + text[at + 1:]):
                    try:
                        machine = read_machine(other)
                    except Malformed as fault:
                        self.assertLessEqual(fault.at, other.count("\n"))
                    else:
                        self.assertEqual(machine_text(machine), other)


class LeastTest(unittest.TestCase):
    def test_counts_tell_nothing_of_states_that_are_not_useful(self):
        self.assertEqual(words_of_length(SIDE_CIRCLES, 1), words_of_length(least(SIDE_CIRCLES), 1))


if __name__ == "__main__":
    unittest.main()
