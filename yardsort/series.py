"""How many words a machine accepts: numbers, totals, and the fraction behind them."""

from yardsort.errors import BadNumber, NotFraction, TooLarge
from yardsort.machines import check_machine, least
from yardsort.minimize import START
from yardsort.polynomials import divided, greatest_common, is_polynomial, multiply, trimmed
from yardsort.wordlists import leads, many_words, settled_states, tails

MOST_COUNTED = 200
MOST_STATES = 30


def _check_counted(number):
    if not 0 <= number <= MOST_COUNTED:
        raise BadNumber("not a number from 0 to 200")


def counts(machine, n):
    """Return how many words of each length from 0 to n a machine accepts."""
    check_machine(machine)
    _check_counted(n)
    ways = tails(machine, n)
    return [many_words(machine, ways, length) for length in range(n + 1)]


def total(machine):
    """Return how many words a machine accepts, or None if there are infinitely many."""
    _, accepting, table = least(machine)
    settled = settled_states(table)
    if len(settled) < len(table):
        return None
    many = {}
    for state in settled:
        many[state] = int(accepting[state]) + sum([many[target] for _, target in leads(table[state])])
    return many.get(START, 0)


def small_least(machine):
    """Return the least machine, or raise TooLarge if it has more than 30 states."""
    small = least(machine)
    if len(small[1]) > MOST_STATES:
        raise TooLarge("the least machine has more than 30 states")
    return small


def _moved_on(table, grid):
    """Return the product of the matrix of a table, and a square matrix."""
    columns = range(len(table))
    return [[sum([grid[target][column] for _, target in leads(targets)]) for column in columns] for targets in table]


def _denominator(table):
    """Return the determinant of I - t M, for the matrix M of a table.

    The method of Faddeev and Le Verrier finds one coefficient after the
    other, from the traces of matrices, and all its divisions leave nothing.
    """
    size = len(table)
    found = [1]
    grid = [[0] * size for _ in range(size)]
    for at in range(1, size + 1):
        for state in range(size):
            grid[state][state] += found[-1]
        grid = _moved_on(table, grid)
        trace = sum([grid[state][state] for state in range(size)])
        found.append(-trace // at)
    return trimmed(found)


def series(machine):
    """Return the reduced fraction whose expansion tells how many words a machine accepts."""
    small = small_least(machine)
    table = small[2]
    size = len(table)
    denominator = _denominator(table)
    # By the theorem of Cayley and Hamilton, no coefficient from t^size on is left.
    whole = multiply(trimmed(counts(small, size)), denominator)
    numerator = trimmed(whole[:size])
    common = greatest_common(numerator, denominator)
    # So that the first coefficient of the denominator, which is 1 or -1, becomes 1.
    unit = [common[0]]
    divisor = multiply(common, unit)
    return (divided(numerator, divisor), divided(denominator, divisor))


def _check_fraction(fraction):
    numerator, denominator = fraction
    if not is_polynomial(numerator) or not is_polynomial(denominator):
        raise NotFraction("not a fraction of polynomials")
    if denominator[:1] != [1]:
        raise NotFraction("the first coefficient of the denominator is not 1")


def expand(fraction, n):
    """Return the expansion of a fraction, up to its entry n."""
    _check_fraction(fraction)
    _check_counted(n)
    numerator, denominator = fraction
    found = []
    for at in range(n + 1):
        entry = numerator[at] if at < len(numerator) else 0
        for back in range(1, min(at, len(denominator) - 1) + 1):
            entry -= denominator[back] * found[at - back]
        found.append(entry)
    return found


def is_reduced(fraction):
    """Return whether no polynomial of degree 1 or more divides both polynomials."""
    _check_fraction(fraction)
    numerator, denominator = fraction
    return len(greatest_common(numerator, denominator)) == 1
