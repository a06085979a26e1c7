import re
import unittest
from math import comb, factorial

from oracles import all_occurrences, fault_of, removed, rows_of_basis, rows_up_to, rows_with, sorted_by_moves
from yardsort.errors import BadNumber, NotKnown, NotYard
from yardsort.known import is_known, known_count, least_rows
from yardsort.replay import turned_row
from yardsort.yards import Yard, turned

HUGE = 10 ** 5000
FALL = [list(range(size, 0, -1)) for size in range(12)]
DEQUES = {"i": [[3, 2, 4, 1], [4, 2, 3, 1]], "o": [[2, 4, 3, 1], [4, 2, 3, 1]]}
# Each row of the table, and queues around them.
ROWS = {"s1": [FALL[2]], "q1": [FALL[2]], "d1": [FALL[2]], "i1": [FALL[2]], "o1": [FALL[2]], "q": [FALL[2]],
        "q2": [FALL[2]], "q6": [FALL[2]], "s": [[2, 3, 1]], "s2": [[2, 3, 1], FALL[3]], "s3": [[2, 3, 1], FALL[4]],
        "s6": [[2, 3, 1], FALL[7]], "i": DEQUES["i"], "o": DEQUES["o"], "[q q]": [FALL[3]], "[q q q]": [FALL[4]],
        "[q q q q q q q q]": [FALL[9]], "(i q)": DEQUES["i"], "(q o)": DEQUES["o"], "(q q)": [FALL[2]],
        "(q1 q)": [FALL[2]], "(q q1)": [FALL[2]], "(q d1)": [FALL[2]], "(s4 q)": [[2, 3, 1], FALL[5]],
        "(q [q q])": [FALL[3]], "([q q] q)": [FALL[3]], "(q (s q))": [[2, 3, 1]], "((q s) q)": [[2, 3, 1]],
        "(q (q (q (q (q (q (q s)))))))": [[2, 3, 1]], "(((((((o q) q) q) q) q) q) q)": DEQUES["o"],
        "(q ((q ((q s2) q)) q))": [[2, 3, 1], FALL[3]], "(q ([q q q q q q] q))": [FALL[7]]}
NOT_KNOWN = ("d", "d2", "d6", "i2", "i6", "o2", "o3", "[s q]", "(s s)", "[q q1]", "[q1 q1]", "[q2 q]", "[s s]", "[q q s]",
             "[q [q q]]", "[(q q) q]", "(q1 s)", "(s q2)", "(q6 q1)", "(s1 q1)", "(q s q)", "(q q q)", "(q q s)", "(q d)",
             "(d q)", "(q (s q q))", "(q [s q])", "((s s) q)", "(s1 s1)", "[s1 s1]", "(i o)", "(q (q1 s))",
             "(q (q (q (q (q (q (q d)))))))")
NOT_YARDS = ("", "(s)", "s7", "(s  q)", "s0", "[q]", "(q s", "(q s]", "q ", " q", "x", "[q q q q q q q q q]", "(q q q q q q q q q)",
             "(q,s)", "Q", "[q q] ", "((((((((( q", "sq")


def slow_rows(text):
    """The least rows by the table, or None, found in the text alone."""
    if re.fullmatch("[sqdio]1|q[1-6]?", text):
        return [FALL[2]]
    if re.fullmatch("s[2-6]?", text):
        return [[2, 3, 1]] + [FALL[int(bound) + 1] for bound in text[1:]]
    if text in DEQUES:
        return DEQUES[text]
    if re.fullmatch(r"\[q( q){1,7}\]", text):
        return [FALL[text.count("q") + 1]]
    for inner, outer in ((text[3:-1], text[:3] + text[-1:]), (text[1:-3], text[:1] + text[-3:])):
        if outer in ("(q )", "( q)") and fault_of(inner) is None:
            return slow_rows(inner)
    return None


def texts():
    """Texts of yards of one to three devices, many of them."""
    small = [letter + bound for letter in "sqdio" for bound in ("", "1", "2")]
    few = ["q", "s", "q1", "i", "d", "s2"]
    pairs = [f"{a}{one} {other}{b}" for one in small for other in small for a, b in ("()", "[]")]
    triples = [form.format(one, other, last) for one in few for other in few for last in few
               for form in ("({} {} {})", "[{} {} {}]", "({} ({} {}))", "(({} {}) {})", "({} [{} {}])", "([{} {}] {})",
                            "[{} ({} {})]", "[{} [{} {}]]")]
    return small + pairs + triples


def deque_count(wagons):
    """The rows that a deque with one way in sorts, by sums of binomial coefficients."""
    size = wagons - 1
    return 1 if wagons == 0 else sum(comb(2 * size - k, k) * catalan(size - k) for k in range(size + 1))


def catalan(steps):
    return comb(2 * steps, steps) // (steps + 1)


def low_walks(steps, highest):
    """The walks that stay between 0 and a height, split at their first return to the beginning."""
    table = {}
    for height in range(highest + 1):
        for size in range(steps + 1):
            table[height, size] = 1 if size == 0 else sum(table[height - 1, k] * table[height, size - 1 - k]
                                                          for k in range(size)) if height > 0 else 0
    return table[highest, steps]


def shapes(cells, rows, widest):
    """The shapes of so many cells with at most so many rows."""
    if cells == 0:
        yield ()
    elif rows > 0:
        for width in range(min(cells, widest), 0, -1):
            for rest in shapes(cells - width, rows - 1, width):
                yield (width,) + rest


def tableaux(shape):
    """The number of standard tableaux of a shape, by its hooks."""
    hooks = 1
    for row, width in enumerate(shape):
        for column in range(width):
            hooks *= width - column + sum(1 for other in shape[row + 1:] if other > column)
    return factorial(sum(shape)) // hooks


class IsKnownTest(unittest.TestCase):
    def test_each_row_of_the_table(self):
        for text in ROWS:
            self.assertIs(is_known(text), True, text)

    def test_yards_that_nearly_belong(self):
        for text in NOT_KNOWN:
            self.assertIs(is_known(text), False, text)
            with self.assertRaises(NotKnown):
                least_rows(text)
            for wagons in (0, 4, -1, 31):
                with self.assertRaises(NotKnown):
                    known_count(text, wagons)

    def test_against_the_texts(self):
        for text in texts():
            self.assertIs(is_known(text), slow_rows(text) is not None, text)

    def test_no_yard(self):
        for text in NOT_YARDS:
            for function in (is_known, least_rows, lambda text: known_count(text, 4), lambda text: known_count(text, -1)):
                with self.assertRaises(NotYard) as raised:
                    function(text)
                self.assertEqual(raised.exception.at, fault_of(text), text)


class LeastRowsTest(unittest.TestCase):
    def test_each_row_of_the_table(self):
        for text, rows in ROWS.items():
            self.assertEqual(least_rows(text), rows, text)
            self.assertEqual(slow_rows(text), rows, text)

    def test_against_the_texts(self):
        for text in texts():
            if is_known(text):
                self.assertEqual(least_rows(text), slow_rows(text), text)

    def test_rows_that_are_not_sorted_although_all_smaller_ones_are(self):
        for text in ("d1", "q", "q2", "s", "s2", "s3", "i", "o", "[q q]", "[q q q]", "(q s2)", "(i q)", "(q o)"):
            found = [row for count in range(5) for row in rows_of_basis(Yard(text), count)]
            self.assertEqual(sorted(least_rows(text), key=lambda row: (len(row), row)), found, text)

    def test_longer_least_rows(self):
        for text, row in (("s4", FALL[5]), ("[q q q q]", FALL[5]), ("s5", FALL[6])):
            yard = Yard(text)
            self.assertIn(row, least_rows(text))
            self.assertFalse(sorted_by_moves(yard, row))
            self.assertTrue(sorted_by_moves(yard, removed(row, 1)))

    def test_turned_yards(self):
        for text in list(ROWS) + texts():
            self.assertEqual(is_known(turned(text)), is_known(text), text)
            if is_known(text):
                self.assertEqual(sorted(least_rows(turned(text))), sorted(turned_row(row) for row in least_rows(text)))

    def test_results_share_nothing(self):
        for text in ("s2", "i", "o", "(q s)", "[q q]"):
            first, again = least_rows(text), least_rows(text)
            for row in first:
                row.clear()
            first.clear()
            self.assertEqual(least_rows(text), again)
            self.assertEqual(again, slow_rows(text))


class KnownCountTest(unittest.TestCase):
    def test_examples(self):
        self.assertEqual([known_count(text, 4) for text in ("s", "s2", "o", "[q q q]")], [14, 8, 22, 23])

    def test_rows_that_contain_no_least_row(self):
        for text in ROWS:
            rows = least_rows(text)
            for wagons in range(6):
                free = [row for row in rows_with(wagons) if not any(all_occurrences(row, least) for least in rows)]
                self.assertEqual(known_count(text, wagons), len(free), (text, wagons))

    def test_rows_that_are_sorted_by_moves(self):
        for text in ("q3", "s", "s2", "i", "o", "[q q]", "[q q q]", "(q s2)", "d1"):
            for wagons in range(5):
                many = sum(1 for row in rows_with(wagons) if sorted_by_moves(Yard(text), row))
                self.assertEqual(known_count(text, wagons), many)

    def test_all_sizes(self):
        for wagons in range(31):
            self.assertEqual(known_count("q3", wagons), 1)
            self.assertEqual(known_count("(q o1)", wagons), 1)
            self.assertEqual(known_count("(s q)", wagons), catalan(wagons))
            self.assertEqual(known_count("[q q]", wagons), catalan(wagons))
            for bound in range(2, 7):
                self.assertEqual(known_count(f"s{bound}", wagons), low_walks(wagons, bound))
            self.assertEqual(known_count("i", wagons), deque_count(wagons))
            self.assertEqual(known_count("(q (o q))", wagons), deque_count(wagons))

    def test_queues_side_by_side(self):
        for queues in range(2, 9):
            text = "[" + " ".join("q" * queues) + "]"
            for wagons in (0, 1, 2, 3, 7, 8, 9, 10, 15, 30):
                squares = [tableaux(shape) ** 2 for shape in shapes(wagons, queues, wagons)]
                self.assertEqual(known_count(text, wagons), sum(squares), (queues, wagons))
        self.assertEqual(known_count("[q q q q q q q q]", 8), factorial(8))
        self.assertEqual(known_count("[q q q q q q q q]", 9), factorial(9) - 1)

    def test_bad_numbers(self):
        for text in ("s", "q", "[q q q]", "i", "s6"):
            for wagons in (-1, 31, HUGE, -HUGE):
                with self.assertRaises(BadNumber):
                    known_count(text, wagons)

    def test_rows_up_to_3_wagons(self):
        self.assertEqual([known_count("s6", wagons) for wagons in range(4)], [1, 1, 2, 5])
        self.assertEqual(len(rows_up_to(3)), sum(known_count("i", wagons) for wagons in range(4)))


if __name__ == "__main__":
    unittest.main()
