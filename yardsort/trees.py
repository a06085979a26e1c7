"""Rows as trees: texts that tell how a row is put together of simple rows."""

from yardsort.errors import BadNumber, NotRow, NotTree, TooLarge
from yardsort.rows import MOST_WAGONS, read_row
from yardsort.simple import decomposition, inflation

SIGNS = {"sum": "+", "skew": "-"}


def tree_of(row):
    """Return the tree of a row."""
    kind, pattern, parts = decomposition(row)
    if kind == "one":
        return "1"
    numbers = " ".join([str(wagon) for wagon in pattern])
    head = SIGNS.get(kind, f"{numbers}:")
    inside = " ".join([head] + [tree_of(part) for part in parts])
    return f"({inside})"


class TreeReader:
    """Reads a text as a tree, and makes the row of it."""

    def __init__(self, text):
        self.text = text
        self.at = 0

    def skip(self, word):
        """Go on behind a word that must stand next."""
        if not self.text.startswith(word, self.at):
            raise NotTree("a part of the tree is missing")
        self.at += len(word)

    def sign(self):
        """Return the next character, or the empty string at the end."""
        return self.text[self.at:self.at + 1]

    def node(self, opened):
        """Read a tree inside of so many open brackets, and return its row."""
        if self.sign() == "1":
            self.skip("1")
            return [1]
        # Every bracket adds a wagon, so a row has no tree with more of them.
        if opened == MOST_WAGONS:
            raise NotTree("there are too many open brackets")
        self.skip("(")
        head = self.head()
        parts = []
        while self.sign() == " ":
            self.skip(" ")
            parts.append(self.node(opened + 1))
        self.skip(")")
        return inflation(_pattern_of(head, len(parts)), parts)

    def head(self):
        """Read the sign of a sum, or the numbers of a pattern."""
        sign = self.sign()
        if sign == "+" or sign == "-":
            self.skip(sign)
            return sign
        end = self.text.find(":", self.at)
        numbers = self.text[self.at:max(end, self.at)]
        self.at += len(numbers)
        self.skip(":")
        return numbers


def _pattern_of(head, size):
    """Return the pattern that a head means before so many parts."""
    if head == "+":
        return list(range(1, size + 1))
    if head == "-":
        return list(range(size, 0, -1))
    return read_row(head)


def _row_in(text):
    """Return the row that a text puts together, whether it is the tree of this row or not."""
    reader = TreeReader(text)
    try:
        row = reader.node(0)
    except (NotRow, BadNumber, TooLarge):
        raise NotTree("the parts do not make a row") from None
    if row == []:
        raise NotTree("the empty row has no tree")
    return row


def row_of_tree(text):
    """Return the row that has a text as its tree."""
    row = _row_in(text)
    # Each row has one tree: so a part that is a sum inside a sum, a pattern
    # that is not simple, or anything behind the tree, makes a difference.
    if tree_of(row) != text:
        raise NotTree("the row has another tree")
    return row
