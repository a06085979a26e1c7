"""Rows of wagons: texts, codes, symmetries, sums, and all rows in order."""

from yardsort.errors import BadNumber, NotCode, NotRow, TooLarge

MOST_WAGONS = 60
MOST_LISTED = 7


def is_row(numbers):
    """Return whether a list contains each of the integers 1 to n exactly once."""
    size = len(numbers)
    return size <= MOST_WAGONS and sorted(numbers) == list(range(1, size + 1))


def check_row(row):
    """Raise NotRow if a list is not a row."""
    if not is_row(row):
        raise NotRow("not a row")


def row_text(row):
    """Return the text of a row."""
    check_row(row)
    return " ".join([str(wagon) for wagon in row])


def read_row(text):
    """Return the row with a text."""
    if text == "":
        return []
    # Words are looked up, because int() would take "01" and "+1", too,
    # and would fail in its own way for thousands of digits.
    numbers = {str(wagon): wagon for wagon in range(1, MOST_WAGONS + 1)}
    row = [numbers.get(word, 0) for word in text.split(" ")]
    check_row(row)
    return row


def inverse(row):
    """Return the row of the places of the wagons 1, 2, .., counted from 1."""
    check_row(row)
    places = [0] * len(row)
    for place, wagon in enumerate(row):
        places[wagon - 1] = place + 1
    return places


def reverse_of(row):
    """Return the row in the opposite order."""
    check_row(row)
    return row[::-1]


def complement(row):
    """Return the row with the numbers of its wagons in the opposite order."""
    check_row(row)
    return [len(row) + 1 - wagon for wagon in row]


def code_of(row):
    """Return for each wagon how many from it on do not stand behind it."""
    places = inverse(row)
    code = []
    for at, place in enumerate(places):
        code.append(len([other for other in places[at:] if other <= place]))
    return code


def _is_code(code):
    size = len(code)
    if size > MOST_WAGONS:
        return False
    return all([1 <= entry <= size - at for at, entry in enumerate(code)])


def row_of(code):
    """Return the row with a code."""
    if not _is_code(code):
        raise NotCode("not the code of a row")
    row = []
    # From the greatest wagon on, the entry tells the place among those that stand.
    for wagon in range(len(code), 0, -1):
        row.insert(code[wagon - 1] - 1, wagon)
    return row


def _check_summands(one, other):
    check_row(one)
    check_row(other)
    if len(one) + len(other) > MOST_WAGONS:
        raise TooLarge("the sum has too many wagons")


def direct_sum(one, other):
    """Return the first row, and behind it the second one with greater numbers."""
    _check_summands(one, other)
    return one + [wagon + len(one) for wagon in other]


def skew_sum(one, other):
    """Return the first row with greater numbers, and behind it the second one."""
    _check_summands(one, other)
    return [wagon + len(other) for wagon in one] + other


def without(row, wagon):
    """Return the row that is left when a wagon is removed."""
    check_row(row)
    if wagon not in row:
        raise BadNumber("the row has no such wagon")
    return [other - 1 if other > wagon else other for other in row if other != wagon]


def comes_before(one, other):
    """Return whether the first row comes before the second one."""
    check_row(one)
    check_row(other)
    return (len(one), one) < (len(other), other)


def _row_behind(row):
    """Return the next row with as many wagons, or None behind the last one."""
    rise = -1
    for place in range(len(row) - 1):
        if row[place] < row[place + 1]:
            rise = place
    if rise == -1:
        return None
    tail = sorted(row[rise:])
    wagon = tail.pop(tail.index(row[rise]) + 1)
    return row[:rise] + [wagon] + tail


def all_rows(count):
    """Yield all rows with so many wagons, in order."""
    if not 0 <= count <= MOST_LISTED:
        raise BadNumber("so many wagons are not listed")
    row = list(range(1, count + 1))
    while row is not None:
        yield list(row)
        row = _row_behind(row)
