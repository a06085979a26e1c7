"""The search for the moves that sort a row."""

from yardsort.errors import BadNumber, TooLarge
from yardsort.moves import after, first_situation, is_free, possible_moves
from yardsort.rows import all_rows

MOST_SITUATIONS = 4000
MOST_IN_ROWS = 4


def is_live(situation):
    """Return whether the wagons that have gone out are 1, 2, .., k in order."""
    gone = situation[2]
    return gone == tuple(range(1, len(gone) + 1))


def is_sorted(row, situation):
    """Return whether a situation is live and all wagons have gone out."""
    return len(situation[2]) == len(row) and is_live(situation)


def live_steps(yard, row, situation, possible):
    """Return the moves to live situations, each with its situation, in order.

    `possible` is the list of the moves that the yard may allow.
    """
    free = [move for move in possible if is_free(yard, row, situation, move)]
    steps = [(move, after(row, situation, move)) for move in free]
    return [step for step in steps if is_live(step[1])]


def explore(yard, row, start):
    """Return the origins of the situations that the search meets, in its order.

    The origin of a situation is the pair of the situation that was looked at
    and the move that led on, and None for the start. The sorted situation can
    only be the last one.
    """
    origins = {start: None}
    waiting = [start]
    possible = possible_moves(yard)
    at = 0
    while at < len(waiting) and not is_sorted(row, waiting[-1]):
        here = waiting[at]
        steps = live_steps(yard, row, here, possible)
        for move, there in steps:
            if there in origins:
                continue
            if len(waiting) == MOST_SITUATIONS:
                raise TooLarge("the search is too large")
            origins[there] = (here, move)
            waiting.append(there)
            if is_sorted(row, there):
                break
        at += 1
    return origins


def way_in(row, origins):
    """Return the moves to the sorted situation, or None if it was not met."""
    situation = list(origins)[-1]
    if not is_sorted(row, situation):
        return None
    moves = []
    while origins[situation] is not None:
        situation, move = origins[situation]
        moves.append(move)
    return moves[::-1]


def solve(yard, row):
    """Return the first of the ways with the fewest moves, or None."""
    return way_in(row, explore(yard, row, first_situation(yard, row)))


def fewest(yard, row):
    """Return the number of moves of the way, or None."""
    way = solve(yard, row)
    return None if way is None else len(way)


def can_sort(yard, row):
    """Return whether a yard sorts a row."""
    return solve(yard, row) is not None


def sorted_rows(yard, size):
    """Return all rows of `size` wagons that a yard sorts, in order."""
    if not 0 <= size <= MOST_IN_ROWS:
        raise BadNumber("rows of this size are not listed")
    rows = list(all_rows(size))
    return [row for row in rows if can_sort(yard, row)]
