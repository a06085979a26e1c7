"""Shifts: plans that go on while wagons move, break down or are late."""

from yardsort.errors import BadMove, BadNumber
from yardsort.moves import first_situation, made
from yardsort.rows import without
from yardsort.search import explore, is_live, is_sorted, way_in
from yardsort.yards import Yard


def _less(wagon, broken):
    """Return the number of a wagon behind the loss of another one."""
    return wagon - 1 if wagon > broken else wagon


def _situation_without(row, situation, wagon):
    """Return a situation without a wagon that has not gone out."""
    came, held, gone = situation
    came = came - 1 if row.index(wagon) < came else came
    tracks = [tuple([_less(other, wagon) for other in track if other != wagon]) for track in held]
    return (came, tuple(tracks), gone)


class Shift:
    """A yard, a row and a situation of them, which events change."""

    def __init__(self, text, row):
        self.yard = Yard(text)
        self._situation = first_situation(self.yard, row)
        self._row = list(row)
        self._events = []

    def __len__(self):
        return len(self._events)

    def __iter__(self):
        return iter(self._events)

    def row(self):
        """Return the row."""
        return list(self._row)

    def situation(self):
        """Return the situation."""
        return self._situation

    @property
    def done(self):
        """Return whether the situation is sorted."""
        return is_sorted(self._row, self._situation)

    def move(self, move):
        """Make a move that leads to a live situation."""
        there = made(self.yard, self._row, self._situation, move)
        if not is_live(there):
            raise BadMove(0)
        self._situation = there
        self._events.append(("move", move))

    def breaks(self, wagon):
        """Take away a wagon that has not gone out."""
        check_left(self, wagon)
        self._situation = _situation_without(self._row, self._situation, wagon)
        self._row = without(self._row, wagon)
        self._events.append(("breaks", wagon))

    def is_late(self, wagon):
        """Let a wagon that has not come be the last one of the row."""
        if wagon not in self._row[self._situation[0]:]:
            raise BadNumber("no such wagon is still to come")
        self._row = [other for other in self._row if other != wagon] + [wagon]
        self._events.append(("late", wagon))

    def plan(self):
        """Return the first of the plans with the fewest moves, or None."""
        return way_in(self._row, explore(self.yard, self._row, self._situation))

    def stuck(self):
        """Return the stuck list of the search, or None if there is a plan."""
        origins = explore(self.yard, self._row, self._situation)
        if way_in(self._row, origins) is not None:
            return None
        return sorted(origins)


def check_left(shift, wagon):
    """Raise BadNumber if a shift has no such wagon, or it has gone out."""
    if wagon not in shift.row() or wagon in shift.situation()[2]:
        raise BadNumber("no such wagon is left in the row or the yard")
