"""Sorting by a rule, without a search, in the yards of the catalogue."""

from yardsort.known import is_free_queue, keeps_order, known_parts, least_rows
from yardsort.patterns import first_occurrence
from yardsort.replay import turned_moves, turned_row
from yardsort.rows import check_row
from yardsort.yards import INS, OUTS, OUTSIDE, Yard

LEFT = 0
RIGHT = 1
NO_END = 0


class Shown:
    """Shows why a yard does not sort a row: a least row, and its places in the row."""

    def __init__(self, which, places):
        self.which = which
        self.places = places


def _first_falling(row, size):
    """Return the first places at which so many numbers fall, or None."""
    falls = [1] * len(row)
    for place in range(len(row) - 1, -1, -1):
        behind = [falls[at] for at in range(place + 1, len(row)) if row[at] < row[place]]
        falls[place] = 1 + max(behind, default=0)
    places = []
    for place, wagon in enumerate(row):
        is_lower = places == [] or wagon < row[places[-1]]
        if len(places) < size and is_lower and falls[place] >= size - len(places):
            places.append(place)
    return places if len(places) == size else None


def _first_places(row, least_row):
    """Return the first occurrence of a least row, or None."""
    # A falling least row may be longer than the patterns that are looked for.
    if least_row == list(range(len(least_row), 0, -1)):
        return _first_falling(row, len(least_row))
    return first_occurrence(row, least_row)


def _shown(row, rows):
    """Return the first of some least rows that a row contains, or None."""
    for which, least_row in enumerate(rows):
        places = _first_places(row, least_row)
        if places is not None:
            return Shown(which, places)
    return None


def _one_by_one(device, row, ends):
    """Return the moves that take each wagon in and at once out again."""
    way_in, way_out = ends
    moves = []
    for _ in row:
        moves.append((OUTSIDE, NO_END, device, way_in))
        moves.append((device, way_out, OUTSIDE, NO_END))
    return moves


def _as_soon_as_possible(device, row, ends):
    """Return the moves that take wagons in at the right end, and out as soon as they are due.

    So the track never holds more wagons than it must, and these stand in the
    order in which they came: nothing else could be done in the meantime.
    """
    track = []
    moves = []
    due = 1
    for wagon in row:
        track.append(wagon)
        moves.append((OUTSIDE, NO_END, device, RIGHT))
        while due in track[-1:] or LEFT in ends and due in track[:1]:
            end = RIGHT if track[-1] == due else LEFT
            track.pop(-1 if end == RIGHT else 0)
            moves.append((device, end, OUTSIDE, NO_END))
            due += 1
    return moves


def _in_the_turned_yard(device, row):
    """Return the moves for a track `o`: those for `i` and the turned row, turned."""
    moves = turned_moves(Yard("i"), _as_soon_as_possible(0, turned_row(row), OUTS["i"]))
    numbers = {0: device, OUTSIDE: OUTSIDE}
    return [(numbers[source], at, numbers[target], to) for source, at, target, to in moves]


def _in_queues(devices, row):
    """Return the moves that bring all wagons into queues, and then out in order.

    Each wagon goes to the first queue whose last wagon is less. Then a wagon
    in the queue behind stands behind a greater one in the queue before it,
    so that a row that needs one queue more contains as many falling numbers.
    """
    lasts = [0] * len(devices)
    queue_of = {}
    moves = []
    for wagon in row:
        queue = [at for at, last in enumerate(lasts) if last < wagon][0]
        lasts[queue] = wagon
        queue_of[wagon] = devices[queue]
        moves.append((OUTSIDE, NO_END, devices[queue], RIGHT))
    for wagon in sorted(row):
        moves.append((queue_of[wagon], LEFT, OUTSIDE, NO_END))
    return moves


def _core_moves(core, bounds, row):
    """Return the moves that sort a row in the core of a yard."""
    sign, number, parts = core
    if sign == "[":
        return _in_queues([device for _, device, _ in parts], row)
    if keeps_order(core, bounds):
        return _one_by_one(number, row, (INS[sign][0], OUTS[sign][0]))
    if sign == "o":
        return _in_the_turned_yard(number, row)
    return _as_soon_as_possible(number, row, OUTS[sign])


def _through_queue(queue, moves, is_before):
    """Return moves in which each wagon also runs through a queue before or behind."""
    longer = []
    for source, at, target, to in moves:
        if is_before and source == OUTSIDE:
            longer.append((OUTSIDE, NO_END, queue, RIGHT))
            longer.append((queue, LEFT, target, to))
        elif not is_before and target == OUTSIDE:
            longer.append((source, at, queue, RIGHT))
            longer.append((queue, LEFT, OUTSIDE, NO_END))
        else:
            longer.append((source, at, target, to))
    return longer


def _moves_in(part, core, bounds, row):
    """Return the moves that sort a row in a part of a yard around its core."""
    if part == core:
        return _core_moves(core, bounds, row)
    first, second = part[2]
    if is_free_queue(first, bounds):
        return _through_queue(first[1], _moves_in(second, core, bounds, row), True)
    return _through_queue(second[1], _moves_in(first, core, bounds, row), False)


def sort_by_rule(text, row):
    """Return moves that sort a row, or what shows that the yard does not sort it."""
    rows = least_rows(text)
    check_row(row)
    shown = _shown(row, rows)
    if shown is not None:
        return shown
    whole, core, bounds = known_parts(text)
    return _moves_in(whole, core, bounds, row)
