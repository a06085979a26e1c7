"""Closed lists of situations, which show that a yard does not sort a row."""

from yardsort.moves import first_situation, is_situation, possible_moves
from yardsort.search import explore, is_live, is_sorted, live_steps, way_in


def closed_list(yard, row):
    """Return the situations that the search met, or None if the yard sorts the row."""
    origins = explore(yard, row, first_situation(yard, row))
    if way_in(row, origins) is not None:
        return None
    return sorted(origins)


def _is_kept(yard, row, situation, listed, possible):
    """Return whether an entry may stand in a closed list of these entries."""
    if not is_situation(yard, row, situation) or not is_live(situation):
        return False
    if is_sorted(row, situation):
        return False
    steps = live_steps(yard, row, situation, possible)
    return all([there in listed for _, there in steps])


def gap_from(yard, row, first, situations):
    """Return the index of the first fault of a list that has to contain `first`, or None."""
    possible = possible_moves(yard)
    listed = {situation: True for situation in situations}
    for at, situation in enumerate(situations):
        if not _is_kept(yard, row, situation, listed, possible):
            return at
    return None if first in listed else len(situations)


def first_gap(yard, row, situations):
    """Return the index of the first fault of a list, or None if it is closed."""
    return gap_from(yard, row, first_situation(yard, row), situations)


def is_closed(yard, row, situations):
    """Return whether a list is a closed list for a yard and a row."""
    return first_gap(yard, row, situations) is None
