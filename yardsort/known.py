"""The catalogue of yards whose least rows are known."""

from yardsort.errors import BadNumber, NotKnown
from yardsort.yards import Reader

MOST_COUNTED = 30
LEAST_ROWS = {"s": ((2, 3, 1),), "i": ((3, 2, 4, 1), (4, 2, 3, 1)), "o": ((2, 4, 3, 1), (4, 2, 3, 1))}


def is_free_queue(part, bounds):
    """Return whether a part of a yard is a queue without a bound."""
    sign, number, _ = part
    return sign == "q" and bounds[number] is None


def _is_core(part, bounds):
    """Return whether a part is in the catalogue without a queue before or behind it."""
    sign, number, parts = part
    if sign == "[":
        return all([is_free_queue(side, bounds) for side in parts])
    if sign == "(":
        return False
    if bounds[number] is None:
        return sign != "d"
    return bounds[number] == 1 or sign == "q" or sign == "s"


def _core_in(part, bounds):
    """Return the part that decides what a part of a yard sorts, or None."""
    if _is_core(part, bounds):
        return part
    sign, _, parts = part
    if sign != "(" or len(parts) != 2:
        return None
    first, second = parts
    if is_free_queue(first, bounds):
        return _core_in(second, bounds)
    if is_free_queue(second, bounds):
        return _core_in(first, bounds)
    return None


def known_parts(text):
    """Return the whole yard as a part, its core, and the bounds of its devices.

    The core is what is left without the queues before and behind it.
    """
    reader = Reader(text)
    whole = reader.whole()
    core = _core_in(whole, reader.bounds)
    if core is None:
        raise NotKnown("the yard does not belong to the catalogue")
    return (whole, core, reader.bounds)


def is_known(text):
    """Return whether a yard belongs to the catalogue."""
    try:
        known_parts(text)
    except NotKnown:
        return False
    return True


def keeps_order(core, bounds):
    """Return whether a core is a device that no wagon can pass another one in."""
    sign, number, _ = core
    return sign == "q" or sign != "[" and bounds[number] == 1


def _falling(size):
    return list(range(size, 0, -1))


def least_rows(text):
    """Return the list of the least rows of a yard."""
    _, core, bounds = known_parts(text)
    sign, number, parts = core
    if sign == "[":
        return [_falling(len(parts) + 1)]
    if keeps_order(core, bounds):
        return [_falling(2)]
    rows = [list(row) for row in LEAST_ROWS[sign]]
    if bounds[number] is not None:
        rows.append(_falling(bounds[number] + 1))
    return rows


def _walks(ups, highest):
    """Count the walks of so many steps up, and as many down, between 0 and a height."""
    ways = [1] + [0] * highest
    for _ in range(2 * ups):
        below = [0] + ways[:-1]
        above = ways[1:] + [0]
        ways = [one + other for one, other in zip(below, above)]
    return ways[0]


def _deque_rows(wagons):
    """Count the rows that a track with three open ways, two of them at one end, sorts."""
    if wagons == 0:
        return 1
    numbers = [1]
    for size in range(1, wagons):
        splits = [numbers[left] * numbers[size - 1 - left] for left in range(size)]
        numbers.append(numbers[-1] + sum(splits))
    return numbers[-1]


def _grown(shape):
    """Return the shapes with one cell more, in which no row is longer than the one above."""
    grown = []
    for row in range(len(shape)):
        if row == 0 or shape[row] < shape[row - 1]:
            grown.append(shape[:row] + (shape[row] + 1,) + shape[row + 1:])
    return grown


def _queue_rows(wagons, queues):
    """Sum the squares of the numbers of standard tableaux with at most so many rows."""
    fillings = {(0,) * queues: 1}
    for _ in range(wagons):
        following = {}
        for shape, many in fillings.items():
            for larger in _grown(shape):
                following[larger] = following.get(larger, 0) + many
        fillings = following
    return sum([many * many for many in fillings.values()])


def known_count(text, wagons):
    """Return how many rows of so many wagons a yard of the catalogue sorts."""
    _, core, bounds = known_parts(text)
    if not 0 <= wagons <= MOST_COUNTED:
        raise BadNumber("rows of so many wagons are not counted")
    sign, number, parts = core
    if sign == "[":
        return _queue_rows(wagons, len(parts))
    if keeps_order(core, bounds):
        return 1
    if sign == "s":
        return _walks(wagons, wagons if bounds[number] is None else bounds[number])
    return _deque_rows(wagons)
