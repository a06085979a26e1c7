"""Shapes of a yard: what it holds while wagons of an endless row go through."""

from yardsort.errors import Unbounded
from yardsort.moves import after, is_free, possible_moves


def capacity(yard):
    """Return the sum of the bounds of a yard."""
    if not yard.is_bounded():
        raise Unbounded("a device has no bound")
    return sum(yard.bounds)


def empty_shape(yard):
    """Return the shape without wagons."""
    return ((),) * len(yard)


def _ranks_without(track, letter):
    return tuple([rank - 1 if rank > letter else rank for rank in track])


def _step_to(situation):
    """Return the letter, or None, and the shape that a move led to."""
    _, held, gone = situation
    if len(gone) == 0:
        return (None, held)
    letter = gone[0]
    return (letter, tuple([_ranks_without(track, letter) for track in held]))


def steps_from(yard, shape):
    """Return for each move from a shape its letter, or None, and its new shape."""
    # With a row of just the wagon that comes next, and nobody gone, a shape
    # is a situation, and its moves are those of moves.py.
    row = [sum([len(track) for track in shape]) + 1]
    situation = (0, shape, ())
    free = [move for move in possible_moves(yard) if is_free(yard, row, situation, move)]
    return [_step_to(after(row, situation, move)) for move in free]


def silent(yard, shape):
    """Return the shapes to which moves without a letter lead, in ascending order."""
    return sorted({there for letter, there in steps_from(yard, shape) if letter is None})


def spoken(yard, shape, letter):
    """Return the shapes to which moves with a letter lead, in ascending order."""
    return sorted({there for other, there in steps_from(yard, shape) if other == letter})


def reached(shapes, onward):
    """Return these shapes and all that are reached from them, in ascending order.

    `onward` returns for a shape the list of the shapes that are one step on.
    """
    met = {shape: True for shape in shapes}
    waiting = list(met)
    while waiting:
        following = onward(waiting.pop())
        for there in following:
            if there not in met:
                met[there] = True
                waiting.append(there)
    return sorted(met)


def closed_set(yard, shapes):
    """Return the shapes that moves without letters reach, in ascending order."""
    return reached(shapes, lambda shape: silent(yard, shape))
