import random
import unittest

from oracles import decompositions, rows_up_to, rows_with
from yardsort.errors import NoRow, NotRow, NotTree
from yardsort.simple import inflation
from yardsort.trees import row_of_tree, tree_of

NOT_ROWS = ([0], [2], [1, 1], [1, 3], list(range(1, 62)))
SIGNS = "1(+- :)2347"
MIXED = [2, 5, 6, 1, 4, 3]
SIMPLE = [2, 4, 1, 3]


def slow_tree(row):
    """The tree of a row, from the only decomposition of the definition."""
    kind, pattern, parts = decompositions(row)[0]
    head = {"sum": "+", "skew": "-"}.get(kind, " ".join(map(str, pattern)) + ":")
    return "1" if kind == "one" else f"({head}" + "".join(" " + slow_tree(part) for part in parts) + ")"


def deep_row(size):
    """A row whose tree has as many open brackets as the row of this size can have."""
    row = [1]
    while len(row) < size:
        row = [wagon + 1 for wagon in row] + [1] if len(row) % 2 else row + [len(row) + 1]
    return row


class TreeOfTest(unittest.TestCase):
    def test_examples(self):
        self.assertEqual(tree_of(MIXED), "(2 4 1 3: 1 (+ 1 1) 1 (- 1 1))")
        self.assertEqual(tree_of([1, 2, 3]), "(+ 1 1 1)")
        self.assertEqual(tree_of([1]), "1")
        self.assertEqual(tree_of([2, 3, 1]), "(- (+ 1 1) 1)")

    def test_all_small_rows(self):
        texts = {}
        for row in rows_up_to(6)[1:]:
            text = tree_of(row)
            self.assertEqual(text, slow_tree(row))
            self.assertNotIn(text, texts)
            texts[text] = row

    def test_60_wagons(self):
        self.assertEqual(tree_of(list(range(60, 0, -1))), "(- " + "1 " * 59 + "1)")
        self.assertEqual(tree_of(deep_row(60)).count("("), 59)

    def test_errors(self):
        with self.assertRaises(NoRow):
            tree_of([])
        for numbers in NOT_ROWS:
            with self.assertRaises(NotRow):
                tree_of(numbers)

    def test_arguments_stay(self):
        row = list(MIXED)
        tree_of(row)
        self.assertEqual(row, MIXED)


class RowOfTreeTest(unittest.TestCase):
    def check_all(self, texts, trees):
        """Each text is the tree of a row, or no tree."""
        for text in texts:
            if text in trees:
                self.assertEqual(row_of_tree(text), trees[text])
            else:
                with self.assertRaises(NotTree):
                    row_of_tree(text)

    def test_examples(self):
        self.assertEqual(row_of_tree("(2 4 1 3: 1 (+ 1 1) 1 (- 1 1))"), MIXED)
        self.assertEqual(row_of_tree("(+ 1 1 1)"), [1, 2, 3])
        self.assertEqual(row_of_tree("1"), [1])
        with self.assertRaises(NotTree):
            row_of_tree("(+ 1 (+ 1 1))")

    def test_all_small_rows(self):
        for row in rows_up_to(6)[1:]:
            self.assertEqual(row_of_tree(tree_of(row)), row)

    def test_long_rows(self):
        source = random.Random(1)
        rows = [deep_row(60), list(range(1, 61)), list(range(2, 61, 2)) + list(range(1, 60, 2))]
        for _ in range(30):
            parts = [source.choice(rows_with(source.randint(1, 5))) for _ in range(10)]
            rows.append(inflation(source.sample(range(1, 11), 10), parts))
        for row in rows:
            self.assertEqual(row_of_tree(tree_of(row)), row)

    def test_a_character_changed_left_out_or_put_in(self):
        trees = {tree_of(row): row for row in rows_up_to(6)[1:]}
        for row in rows_up_to(4)[1:] + [[2, 4, 1, 3, 5], [3, 5, 1, 4, 2], [5, 2, 4, 1, 3]]:
            text = tree_of(row)
            for at in range(len(text) + 1):
                texts = [text[:at] + sign + text[at:] for sign in SIGNS]
                texts += [text[:at] + sign + text[at + 1:] for sign in SIGNS] + [text[:at] + text[at + 1:], text[:at]]
                self.check_all(texts, trees)

    def test_sums_in_sums(self):
        for text in ("(+ 1 (+ 1 1))", "(+ (+ 1 1) 1)", "(- 1 (- 1 1))", "(- (- 1 1) 1)", "(+ (+ 1 1) (+ 1 1))",
                     "(+ 1 (- 1 (- 1 1)))"):
            with self.assertRaises(NotTree):
                row_of_tree(text)
        self.assertEqual(row_of_tree("(+ 1 (- 1 1))"), [1, 3, 2])
        self.assertEqual(row_of_tree("(- 1 (+ 1 1))"), [3, 1, 2])

    def test_patterns_that_are_not_simple(self):
        for text in ("(1 2: 1 1)", "(2 1: 1 1)", "(1: 1)", "(1 2 3: 1 1 1)", "(2 3 1: 1 1 1)", "(2 4 3 1: 1 1 1 1)",
                     "(1 3 5 2 4: 1 1 1 1 1)", "(2 4 1 3 5: 1 1 1 1 1)"):
            with self.assertRaises(NotTree):
                row_of_tree(text)
        self.assertEqual(row_of_tree("(2 4 1 3: 1 1 1 1)"), SIMPLE)

    def test_patterns_that_are_no_rows(self):
        for head in ("2 4 1", "2 4 1 4", "2 4 1 5", "0 4 1 3", "2  4 1 3", " 2 4 1 3", "2 4 1 3 ", "02 4 1 3", "+2 4 1 3", "",
                     "2,4,1,3", "2 4 1 3:", "x", "2 4 1 61"):
            for parts in (" 1 1 1 1", " 1 1 1", ""):
                with self.assertRaises(NotTree):
                    row_of_tree(f"({head}:{parts})")

    def test_too_many_and_too_few_parts(self):
        for text in ("(2 4 1 3: 1 1 1)", "(2 4 1 3: 1 1 1 1 1)", "(2 4 1 3:)", "(+ 1)", "(- 1)", "(+)", "(-)", "(:)", "()", "( 1)",
                     "(+ )", "(+1 1)", "(+ 1  1)", "(+ 1 1 )", "(+ 1,1)", "(2 4 1 3 1 1 1 1)"):
            with self.assertRaises(NotTree):
                row_of_tree(text)

    def test_other_texts(self):
        for text in ("", " ", "2", "11", "1 1", "1 ", " 1", "0", "(", ")", "+", "(+ 1 1", "(+ 1 1))", "(+ 1 1) ", "[+ 1 1]",
                     "(+ 1 2)", "(+ 1 1)(+ 1 1)", "(* 1 1)", "\n", "(+ 1\n1)", "1" * 5000, "9" * 5000 + ":"):
            with self.assertRaises(NotTree):
                row_of_tree(text)

    def test_too_many_wagons(self):
        self.assertEqual(row_of_tree("(+" + " 1" * 60 + ")"), list(range(1, 61)))
        for text in ("(+" + " 1" * 61 + ")", "(- (+" + " 1" * 30 + ") (+" + " 1" * 31 + "))", "(+" + " 1" * 100000 + ")"):
            with self.assertRaises(NotTree):
                row_of_tree(text)

    def test_many_open_brackets(self):
        for many in (59, 60, 61, 100, 5000, 100000):
            for text in ("(" * many, "(+ 1 " * many, "(+ " * many + "1" + ")" * many, "(+ 1 (- 1 " * many):
                with self.assertRaises(NotTree):
                    row_of_tree(text)

    def test_results_share_nothing(self):
        row_of_tree("1").append(2)
        self.assertEqual(row_of_tree("1"), [1])


if __name__ == "__main__":
    unittest.main()
