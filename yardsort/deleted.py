"""Rows that are one too many, and the machine of their codes."""

from yardsort.errors import TooLarge
from yardsort.machines import accepts, check_machine
from yardsort.minimize import DEAD, START, minimized, walked
from yardsort.products import intersection, widen
from yardsort.rows import check_row, code_of, without

MOST_LETTERS = 4
MOST_IN_MACHINE = 40


def _codes(letters):
    """Return the machine of all codes of these letters.

    Its states tell how many letters must follow at least, so that the word
    is a code.
    """
    table = [tuple([max(due - 1, place) for place in range(letters)]) for due in range(letters)]
    return (letters, tuple([due == 0 for due in range(letters)]), tuple(table))


def _pairs_apart(accepting, table):
    """Return the pairs of states that no word leads both to accepting states."""
    sources = {}
    waiting = []
    pairs = [(one, other) for one in range(len(accepting)) for other in range(one + 1)]
    for one, other in pairs:
        if accepting[one] and accepting[other]:
            waiting.append((one, other))
        for ends in zip(table[one], table[other]):
            if DEAD not in ends:
                sources.setdefault((max(ends), min(ends)), []).append((one, other))
    apart = {pair: True for pair in pairs}
    while waiting:
        pair = waiting.pop()
        if pair in apart:
            del apart[pair]
            waiting.extend(sources.get(pair, []))
    return list(apart)


def _lesser_apart(accepting, table):
    """Return for each state the bits of the states before it that are apart from it."""
    bits = [0] * len(accepting)
    for one, other in _pairs_apart(accepting, table):
        bits[one] += 1 << other
    return bits


def _are_apart(bits, states):
    """Return whether two of these states, in ascending order, are apart."""
    seen = 0
    for state in states:
        if (seen & bits[state]) > 0:
            return True
        seen += 1 << state
    return False


def _first_reading(letters, states):
    """Return what is known before a code is read.

    Such a reading is a tuple (`due`, `whole`, `ahead`, `behind`). `due` is
    the least number of letters that must follow, so that the word is a code.
    `whole` is the state behind the word. The other states are those behind
    the code of the row without one wagon: `ahead` has one for each of the
    first places that the wagons yet to be read have in the row, as a wagon
    further behind is not told apart from the word by a letter; `behind` has
    those for the wagons that were read, in ascending order.
    """
    start = START if states > 0 else DEAD
    return (0, start, (start,) * letters, ())


def _read_on(table, bits, reading, letter):
    """Return the reading behind one more letter, or None if no code with it is wanted.

    The letter tells at which place, of those left, the next wagon stands. In
    the code without a wagon before it the entry stays, without one behind it
    the entry is less by 1, and its own removal removes the entry.
    """
    due, whole, ahead, behind = reading
    place = letter - 1
    still_due = max(due - 1, place)
    onward = table[whole][place]
    nearer = [table[state][place - 1] for state in ahead[:place]]
    farther = [table[state][place] for state in ahead[letter:]]
    left = tuple(nearer + farther + [onward])
    removed = [table[state][place] for state in behind] + [ahead[place]]
    # As many wagons as are due will be removed in their turn.
    if DEAD in removed or DEAD in left[:still_due]:
        return None
    ends = sorted(set(removed))
    return None if _are_apart(bits, ends) else (still_due, onward, left, tuple(ends))


def _is_end(accepting, reading):
    """Return whether a word is the code of a row that is one too many."""
    due, _, _, behind = reading
    return due == 0 and all([accepting[state] for state in behind])


def lost(machine):
    """Return the least machine of the codes of the rows that are one too many."""
    check_machine(machine)
    if machine[0] > MOST_LETTERS or len(machine[1]) > MOST_IN_MACHINE:
        raise TooLarge("the machine is too large")
    # Machines that accept the same codes have the same result. Without their
    # other words they are the same machine, which may have far fewer readings.
    codes = intersection(machine, _codes(machine[0]))
    letters, accepting, rows = widen(codes, machine[0] + 1)
    # The index DEAD finds a last row in which no letter leads on.
    table = rows + ((DEAD,) * letters,)
    # Where states are apart, as in a machine that counts, most readings lead to no code.
    bits = _lesser_apart(accepting, rows)
    first = _first_reading(letters, len(accepting))
    readings, walks = walked(first, letters, lambda reading, letter: _read_on(table, bits, reading, letter))
    flags = [_is_end(accepting, reading) for reading in readings]
    return minimized(letters, flags, walks, len(readings))


def is_one_too_many(machine, row):
    """Return whether a machine accepts the code of the row without any one wagon."""
    check_machine(machine)
    check_row(row)
    return all([accepts(machine, code_of(without(row, wagon))) for wagon in row])
