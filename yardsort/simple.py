"""Rows that are taken apart: blocks, simple rows and inflations."""

from yardsort.errors import BadNumber, NoRow, TooLarge
from yardsort.rows import MOST_WAGONS, all_rows, check_row

MOST_LISTED = 6
LEAST_SIMPLE = 4


def blocks(row):
    """Return the first and the last place of each block that is not trivial, in order."""
    check_row(row)
    found = []
    for first in range(len(row)):
        least = row[first]
        greatest = row[first]
        for last in range(first + 1, len(row)):
            least = min(least, row[last])
            greatest = max(greatest, row[last])
            if greatest - least == last - first and last - first + 1 < len(row):
                found.append((first, last))
    return found


def is_simple(row):
    """Return whether a row has at least 4 wagons, and trivial blocks alone."""
    return blocks(row) == [] and len(row) >= LEAST_SIMPLE


def _standardized(wagons):
    """Return the row with the same order of sizes."""
    sizes = sorted(wagons)
    return [sizes.index(wagon) + 1 for wagon in wagons]


def _cut(row, starts):
    """Return the parts of a row that begin at these places."""
    ends = starts[1:] + [len(row)]
    return [_standardized(row[start:end]) for start, end in zip(starts, ends)]


def _sum_starts(row):
    """Return the places at which the parts of a direct sum begin, all of them."""
    return [place for place in range(len(row)) if sorted(row[:place]) == list(range(1, place + 1))]


def _block_starts(row):
    """Return the places at which the greatest blocks that are not the whole row begin.

    They have no places in common if the row is neither a direct nor a skew
    sum: otherwise two of them together would be a greater block.
    """
    longest = {place: place for place in range(len(row))}
    for first, last in blocks(row):
        longest[first] = max(longest[first], last)
    starts = []
    place = 0
    while place < len(row):
        starts.append(place)
        place = longest[place] + 1
    return starts


def decomposition(row):
    """Return the decomposition of a row: its kind, its pattern and its parts."""
    check_row(row)
    if len(row) == 0:
        raise NoRow("the empty row has no decomposition")
    if len(row) == 1:
        return ("one", [1], [[1]])
    starts = _sum_starts(row)
    if len(starts) > 1:
        return ("sum", list(range(1, len(starts) + 1)), _cut(row, starts))
    starts = _sum_starts([len(row) + 1 - wagon for wagon in row])
    if len(starts) > 1:
        return ("skew", list(range(len(starts), 0, -1)), _cut(row, starts))
    starts = _block_starts(row)
    return ("simple", _standardized([row[start] for start in starts]), _cut(row, starts))


def _check_parts(pattern, parts):
    """Raise an error if there is no inflation of a pattern by these parts."""
    check_row(pattern)
    for part in parts:
        check_row(part)
    if len(parts) != len(pattern) or [] in parts:
        raise BadNumber("not one part that is not empty for each wagon")
    if sum([len(part) for part in parts]) > MOST_WAGONS:
        raise TooLarge("the inflation has too many wagons")


def inflation(pattern, parts):
    """Return the row that has a part in the place of each wagon of a pattern."""
    _check_parts(pattern, parts)
    row = []
    for wagon, part in zip(pattern, parts):
        less = sum([len(other) for number, other in zip(pattern, parts) if number < wagon])
        row.extend([number + less for number in part])
    return row


def simple_rows(count):
    """Return all simple rows with so many wagons, in order."""
    if not 0 <= count <= MOST_LISTED:
        raise BadNumber("simple rows of so many wagons are not listed")
    rows = list(all_rows(count))
    return [row for row in rows if is_simple(row)]
