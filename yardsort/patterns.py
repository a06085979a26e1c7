"""Patterns: where and how often a row contains a smaller one."""

from yardsort.errors import BadNumber, NotPattern
from yardsort.rows import all_rows, check_row, inverse, is_row

MOST_IN_PATTERN = 6
MOST_IN_LISTED = 4
NOBODY = 0


def pattern_at(row, places):
    """Return the pattern of a row at a list of places."""
    check_row(row)
    before = -1
    for place in places:
        if not before < place < len(row):
            raise BadNumber("the places are not ascending indexes of the row")
        before = place
    wagons = [row[place] for place in places]
    sizes = sorted(wagons)
    return [sizes.index(wagon) + 1 for wagon in wagons]


def _check_pattern(pattern):
    if len(pattern) > MOST_IN_PATTERN or not is_row(pattern):
        raise NotPattern("not a row of at most 6 wagons")


def _places_by_size(row):
    return [place - 1 for place in inverse(row)]


def _fillings(pattern, index, begun, length):
    """Yield lists that tell for each place of a row a wagon of the pattern.

    `begun` tells it for the first places, where the wagons of the pattern
    before `index` have been given one place each. From there on every second
    wagon is given one place. A wagon between two of these may stand at any
    place between theirs, so no place is left to two wagons, and there are
    few enough lists to go through for a row of 60 wagons.
    """
    left = length - len(begun)
    if index + 1 >= len(pattern):
        last = pattern[index] if index < len(pattern) else NOBODY
        yield begun + [last] * left
        return
    behind = index + 2
    needed = len(pattern) - behind
    for gap in range(1, left - needed):
        longer = begun + [pattern[index]] * gap + [pattern[index + 1]]
        yield from _fillings(pattern, behind, longer, length)


def _ways(filling, places_by_size, size):
    """Count the occurrences with each wagon at a place that is left to it."""
    ways = [1] + [0] * size
    for place in places_by_size:
        wagon = filling[place]
        if wagon != NOBODY:
            ways[wagon] = ways[wagon] + ways[wagon - 1]
    return ways[size]


def _goes_on(pattern, index, begun, places_by_size):
    """Return whether some occurrence begins as `begun` tells."""
    length = len(places_by_size)
    for filling in _fillings(pattern, index, begun, length):
        if _ways(filling, places_by_size, len(pattern)) > 0:
            return True
    return False


def _with_next(pattern, index, begun, places_by_size):
    """Return `begun` with the first place that the next wagon can have, or None."""
    for place in range(len(begun), len(places_by_size)):
        longer = begun + [NOBODY] * (place - len(begun)) + [pattern[index]]
        if _goes_on(pattern, index + 1, longer, places_by_size):
            return longer
    return None


def first_occurrence(row, pattern):
    """Return the places of the first occurrence, or None."""
    check_row(row)
    _check_pattern(pattern)
    places_by_size = _places_by_size(row)
    begun = []
    places = []
    for index in range(len(pattern)):
        begun = _with_next(pattern, index, begun, places_by_size)
        if begun is None:
            return None
        places.append(len(begun) - 1)
    return places


def contains(row, pattern):
    """Return whether a row contains a pattern."""
    check_row(row)
    _check_pattern(pattern)
    return _goes_on(pattern, 0, [], _places_by_size(row))


def occurrences(row, pattern):
    """Return the number of occurrences of a pattern in a row."""
    check_row(row)
    _check_pattern(pattern)
    places_by_size = _places_by_size(row)
    length = len(row)
    total = 0
    for filling in _fillings(pattern, 0, [], length):
        total += _ways(filling, places_by_size, len(pattern))
    return total


def patterns_of(row, size):
    """Return all rows with `size` wagons that a row contains, in order."""
    check_row(row)
    if not 0 <= size <= MOST_IN_LISTED:
        raise BadNumber("patterns of this size are not listed")
    patterns = list(all_rows(size))
    return [pattern for pattern in patterns if contains(row, pattern)]


def first_contained(row, patterns):
    """Return the index of the first pattern that a row contains, or None."""
    check_row(row)
    for pattern in patterns:
        _check_pattern(pattern)
    for index, pattern in enumerate(patterns):
        if contains(row, pattern):
            return index
    return None
