"""Machines that are made of other machines."""

from yardsort.errors import BadNumber
from yardsort.machines import MOST_LETTERS, MOST_STATES, check_letters, check_machine, least
from yardsort.minimize import DEAD, minimized

# Whether a word is wanted that neither, only the second, only the first
# machine, or both accept: the outer index is for the first machine.
IN_ONE_AT_LEAST = ((False, True), (True, True))
IN_BOTH = ((False, False), (False, True))
IN_FIRST_ONLY = ((False, False), (True, False))


def _with_end(machine):
    """Return the flags and rows of a machine, with those of a lost word behind.

    So the index -1 finds the state of a lost word, and the index 0 finds it
    in a machine without states.
    """
    letters, accepting, table = machine
    return (accepting + (False,), table + ((DEAD,) * letters,))


def complement(machine):
    """Return the machine of the words that a machine does not accept."""
    check_machine(machine)
    letters = machine[0]
    flags, rows = _with_end(machine)
    end = len(rows) - 1
    table = [[end if target == DEAD else target for target in row] for row in rows]
    return minimized(letters, [not flag for flag in flags], table, MOST_STATES)


def _product(one, other, wanted):
    """Return the machine of the words that a table of two flags wants."""
    check_letters(one, other)
    one_flags, one_rows = _with_end(least(one))
    other_flags, other_rows = _with_end(least(other))
    pairs = [(0, 0)]
    numbers = {(0, 0): 0, (DEAD, DEAD): DEAD}
    accepting = []
    table = []
    while len(table) < len(pairs):
        state, fellow = pairs[len(table)]
        accepting.append(wanted[int(one_flags[state])][int(other_flags[fellow])])
        row = []
        for pair in zip(one_rows[state], other_rows[fellow]):
            if pair not in numbers:
                numbers[pair] = len(pairs)
                pairs.append(pair)
            row.append(numbers[pair])
        table.append(row)
    return minimized(one[0], accepting, table, MOST_STATES)


def union(one, other):
    """Return the machine of the words that at least one machine accepts."""
    return _product(one, other, IN_ONE_AT_LEAST)


def intersection(one, other):
    """Return the machine of the words that both machines accept."""
    return _product(one, other, IN_BOTH)


def difference(one, other):
    """Return the machine of the words that the first machine alone accepts."""
    return _product(one, other, IN_FIRST_ONLY)


def widen(machine, letters):
    """Return the machine of the same words with so many letters."""
    check_machine(machine)
    if not machine[0] <= letters <= MOST_LETTERS:
        raise BadNumber("not a possible number of letters")
    _, accepting, table = least(machine)
    more = (DEAD,) * (letters - machine[0])
    return (letters, accepting, tuple([row + more for row in table]))


def includes(one, other):
    """Return whether the first machine accepts every word that the second one accepts."""
    check_machine(one)
    check_machine(other)
    one_flags, one_rows = _with_end(widen(one, max(one[0], other[0])))
    other_flags, other_rows = _with_end(least(other))
    pairs = [(0, 0)]
    met = {(0, 0): True}
    at = 0
    while at < len(pairs):
        state, fellow = pairs[at]
        if other_flags[state] and not one_flags[fellow]:
            return False
        for pair in zip(other_rows[state], one_rows[fellow]):
            if pair[0] != DEAD and pair not in met:
                met[pair] = True
                pairs.append(pair)
        at += 1
    return True
