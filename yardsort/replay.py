"""Lists of moves: replayed, judged, shortened by a wagon, and turned."""

from yardsort.errors import BadMove, BadNumber
from yardsort.moves import after, first_situation, is_free, possible_moves, wagon_of
from yardsort.rows import inverse
from yardsort.yards import OUTSIDE, turned_numbers

QUEUE_IN = 1
QUEUE_OUT = 0


def replay(yard, row, moves):
    """Return the first situation and the one after each move."""
    situation = first_situation(yard, row)
    situations = [situation]
    possible = possible_moves(yard)
    for at, move in enumerate(moves):
        if move not in possible or not is_free(yard, row, situation, move):
            raise BadMove(at)
        situation = after(row, situation, move)
        situations.append(situation)
    return situations


def sorts(yard, row, moves):
    """Return whether moves sort a row."""
    try:
        situations = replay(yard, row, moves)
    except BadMove:
        return False
    gone = situations[-1][2]
    return list(gone) == sorted(row)


def taken(yard, row, moves):
    """Return the wagon that each move takes."""
    situations = replay(yard, row, moves)
    return [wagon_of(row, situations[at], move) for at, move in enumerate(moves)]


def without_wagon(yard, row, moves, wagon):
    """Return the moves that do not take a wagon."""
    wagons = taken(yard, row, moves)
    if wagon not in row:
        raise BadNumber("the row has no such wagon")
    return [move for move, other in zip(moves, wagons) if other != wagon]


def _turned_place(yard, numbers, device, end, queue_end):
    """Return a device and an end of it as they are in the turned yard."""
    if device == OUTSIDE:
        return (device, end)
    if yard.kinds[device] == "q":
        return (numbers[device], queue_end)
    return (numbers[device], end)


def turned_moves(yard, moves):
    """Return the turned moves in the opposite order."""
    numbers = turned_numbers(yard.text)
    turned = []
    for source, source_end, target, target_end in moves[::-1]:
        new_source = _turned_place(yard, numbers, target, target_end, QUEUE_OUT)
        new_target = _turned_place(yard, numbers, source, source_end, QUEUE_IN)
        turned.append(new_source + new_target)
    return turned


def turned_row(row):
    """Return the turned row."""
    return [len(row) + 1 - place for place in inverse(row)[::-1]]
