"""The basis of a yard: the least rows that it cannot sort."""

from yardsort.deleted import is_one_too_many, lost
from yardsort.errors import BadNumber, TooLarge
from yardsort.language import Language
from yardsort.machines import accepts
from yardsort.patterns import pattern_at
from yardsort.products import difference, widen
from yardsort.rows import check_row, code_of, row_of
from yardsort.wordlists import all_words, is_finite, pump

MOST_CAPACITY = 3
MOST_WAGONS = 8


def _machine(yard):
    """Return the machine of a yard that is small enough."""
    language = Language(yard)
    if language.letters > MOST_CAPACITY:
        raise TooLarge("the capacity is above 3")
    return language.machine()


def basis_machine(yard):
    """Return the least machine of the codes of the basis."""
    machine = _machine(yard)
    return difference(lost(machine), widen(machine, machine[0] + 1))


def in_basis(yard, row):
    """Return whether a row is in the basis."""
    machine = _machine(yard)
    check_row(row)
    return not accepts(machine, code_of(row)) and is_one_too_many(machine, row)


def _rows_with(machine, count):
    """Return the rows with so many wagons whose codes a machine accepts, in order."""
    return sorted([row_of(word) for word in all_words(machine, count)])


def basis_rows(yard, count):
    """Return all rows of the basis with so many wagons, in order."""
    machine = basis_machine(yard)
    if not 0 <= count <= MOST_WAGONS:
        raise BadNumber("so many wagons are not listed")
    return _rows_with(machine, count)


def whole_basis(yard):
    """Return all rows of the basis, in order, or None if there are infinitely many."""
    machine = basis_machine(yard)
    if not is_finite(machine):
        return None
    rows = []
    # Without a circle, no word is as long as the machine has states.
    for count in range(len(machine[1])):
        rows.extend(_rows_with(machine, count))
    return rows


def family(yard):
    """Return a pump of the basis machine, or None if the basis is finite."""
    return pump(basis_machine(yard))


def _sorts_some(machine, row, wagons):
    """Return whether a machine accepts the code of the pattern at the places of some wagons."""
    places = [place for place, wagon in enumerate(row) if wagon in wagons]
    return accepts(machine, code_of(pattern_at(row, places)))


def core(yard, row):
    """Return the wagons of a core of a row, or None if the yard sorts the row."""
    machine = _machine(yard)
    check_row(row)
    wagons = sorted(row)
    if _sorts_some(machine, row, wagons):
        return None
    # A wagon that is needed once is still needed when others have been removed.
    for wagon in sorted(row):
        fewer = [other for other in wagons if other != wagon]
        if not _sorts_some(machine, row, fewer):
            wagons = fewer
    return wagons
