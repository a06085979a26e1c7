"""Machines that accept words, their least forms, and walkers on them."""

from yardsort.errors import NotMachine, NotWord, OtherLetters
from yardsort.minimize import DEAD, minimized

MOST_LETTERS = 6
MOST_STATES = 2000


def is_machine(machine):
    """Return whether a tuple is a machine."""
    letters, accepting, table = machine
    states = len(accepting)
    if not 1 <= letters <= MOST_LETTERS or states > MOST_STATES or len(table) != states:
        return False
    for row in table:
        if len(row) != letters or not all([DEAD <= target < states for target in row]):
            return False
    return True


def check_machine(machine):
    """Raise NotMachine if a tuple is not a machine."""
    if not is_machine(machine):
        raise NotMachine("not a machine")


def check_letters(one, other):
    """Raise an error if one is no machine, or the numbers of letters differ."""
    check_machine(one)
    check_machine(other)
    if one[0] != other[0]:
        raise OtherLetters("the numbers of letters differ")


class Walker:
    """Reads a word letter by letter."""

    def __init__(self, machine):
        check_machine(machine)
        self._machine = machine
        self.state = 0 if len(machine[1]) > 0 else DEAD

    def read(self, letter):
        """Read one more letter."""
        if letter < 1:
            raise NotWord("a letter is less than 1")
        letters, _, table = self._machine
        if self.state != DEAD:
            self.state = table[self.state][letter - 1] if letter <= letters else DEAD

    @property
    def is_accepted(self):
        """Return whether the machine accepts the word that was read."""
        return self.state != DEAD and self._machine[1][self.state]


def accepts(machine, word):
    """Return whether a machine accepts a word."""
    walker = Walker(machine)
    for letter in word:
        walker.read(letter)
    return walker.is_accepted


def least(machine):
    """Return the least machine that accepts the same words."""
    check_machine(machine)
    letters, accepting, table = machine
    return minimized(letters, accepting, table, MOST_STATES)


def same_words(one, other):
    """Return whether two machines accept the same words."""
    check_letters(one, other)
    return least(one) == least(other)
