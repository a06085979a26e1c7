"""Plans of shifts: judged, and mended behind a broken wagon."""

from yardsort.closed import gap_from
from yardsort.errors import BadMove
from yardsort.moves import after, is_free, possible_moves, wagon_of
from yardsort.plan import check_left
from yardsort.search import is_live, is_sorted


def _wagons_taken(shift, moves):
    """Return the wagon that each move of a plan takes, or raise BadMove if it is no plan."""
    row = shift.row()
    situation = shift.situation()
    possible = possible_moves(shift.yard)
    wagons = []
    for at, move in enumerate(moves):
        if move not in possible or not is_free(shift.yard, row, situation, move):
            raise BadMove(at)
        wagons.append(wagon_of(row, situation, move))
        situation = after(row, situation, move)
        if not is_live(situation):
            raise BadMove(at)
    if not is_sorted(row, situation):
        raise BadMove(len(moves))
    return wagons


def is_plan(shift, moves):
    """Return whether a list of moves is a plan for a shift."""
    try:
        _wagons_taken(shift, moves)
    except BadMove:
        return False
    return True


def is_stuck(shift, situations):
    """Return whether a list is a stuck list for a shift."""
    return gap_from(shift.yard, shift.row(), shift.situation(), situations) is None


def mended(shift, moves, wagon):
    """Return the moves of a plan without those of a wagon."""
    check_left(shift, wagon)
    wagons = _wagons_taken(shift, moves)
    return [move for move, other in zip(moves, wagons) if other != wagon]
