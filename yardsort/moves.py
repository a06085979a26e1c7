"""Situations of a yard and a row, and the moves between them."""

from yardsort.errors import BadMove, NotSituation
from yardsort.rows import check_row
from yardsort.yards import OUTSIDE

LEFT = 0
OUTSIDE_ENDS = (0,)


def first_situation(yard, row):
    """Return the situation in which no wagon has come."""
    check_row(row)
    return (0, ((),) * len(yard), ())


def _fit(yard, held):
    """Return whether there is a track for each device, none above its bound."""
    if len(held) != len(yard):
        return False
    for device, track in enumerate(held):
        bound = yard.bounds[device]
        if bound is not None and len(track) > bound:
            return False
    return True


def is_situation(yard, row, situation):
    """Return whether a tuple is a situation of the yard and the row."""
    came, held, gone = situation
    if not 0 <= came <= len(row) or not _fit(yard, held):
        return False
    wagons = list(gone)
    for track in held:
        wagons.extend(track)
    return sorted(wagons) == sorted(row[:came])


def check_situation(yard, row, situation):
    """Raise NotSituation if a tuple is not a situation of the yard and the row."""
    check_row(row)
    if not is_situation(yard, row, situation):
        raise NotSituation("not a situation of the yard and the row")


def possible_moves(yard):
    """Return, in ascending order, the moves that some situation may allow."""
    moves = []
    for source, target in yard.links:
        source_ends = OUTSIDE_ENDS if source == OUTSIDE else yard.outs(source)
        target_ends = OUTSIDE_ENDS if target == OUTSIDE else yard.ins(target)
        moves.extend([(source, at, target, to) for at in source_ends for to in target_ends])
    return sorted(moves)


def is_free(yard, row, situation, move):
    """Return whether a possible move finds a wagon to take, and room for it."""
    came, held, _ = situation
    source, _, target, _ = move
    if source == OUTSIDE:
        has_wagon = came < len(row)
    else:
        has_wagon = len(held[source]) > 0
    return has_wagon and (target == OUTSIDE or yard.room(target, len(held[target])))


def wagon_of(row, situation, move):
    """Return the wagon that a move takes."""
    came, held, _ = situation
    source, source_end, _, _ = move
    if source == OUTSIDE:
        return row[came]
    return held[source][0] if source_end == LEFT else held[source][-1]


def after(row, situation, move):
    """Return the situation after a move that can be made."""
    came, held, gone = situation
    source, source_end, target, target_end = move
    wagon = wagon_of(row, situation, move)
    tracks = list(held)
    if source == OUTSIDE:
        came = came + 1
    else:
        tracks[source] = tracks[source][1:] if source_end == LEFT else tracks[source][:-1]
    if target == OUTSIDE:
        gone = gone + (wagon,)
    else:
        track = tracks[target]
        tracks[target] = (wagon,) + track if target_end == LEFT else track + (wagon,)
    return (came, tuple(tracks), gone)


def moves_of(yard, row, situation):
    """Return all moves that can be made in a situation, in ascending order."""
    check_situation(yard, row, situation)
    return [move for move in possible_moves(yard) if is_free(yard, row, situation, move)]


def made(yard, row, situation, move):
    """Return the situation after a move."""
    if move not in moves_of(yard, row, situation):
        raise BadMove(0)
    return after(row, situation, move)
