"""Certificates, checked without any search and apart from the other modules.

Texts of yards, moves and machines are read here once more, on purpose:
whoever trusts this file need not trust the rest of the program.
"""

from yardsort.errors import NotMachine, NotRow, NotYard

OUTSIDE = -1
NOWHERE = -1
ENDS_IN = {"s": (1,), "q": (1,), "d": (0, 1), "i": (1,), "o": (0, 1)}
ENDS_OUT = {"s": (1,), "q": (0,), "d": (0, 1), "i": (0, 1), "o": (1,)}
CLOSED_BY = {"(": ")", "[": "]"}
BOUND_DIGITS = {"1": 1, "2": 2, "3": 3, "4": 4, "5": 5, "6": 6}
MOST_DEVICES = 8
MOST_BRACKETS = 8
MOST_WAGONS = 60
MOST_LETTERS = 6
MOST_STATES = 2000


class Plan:
    """The devices and the links of a yard, read sign by sign.

    A part of the yard that was read is a pair of its entries and its exits.
    `levels` has the parts inside of each open bracket; the first level is
    the one outside of all brackets.
    """

    def __init__(self):
        self.kinds = []
        self.bounds = []
        self.links = []
        self.brackets = []
        self.levels = [[]]
        self.last = ""
        self.is_part_due = True

    def takes(self, sign):
        """Read a sign, and return whether it is allowed here."""
        is_right = self.begins(sign) if self.is_part_due else self.goes_on(sign)
        self.last = sign
        return is_right

    def begins(self, sign):
        """Read the first sign of a part."""
        if sign in CLOSED_BY and len(self.brackets) < MOST_BRACKETS:
            self.brackets.append(sign)
            self.levels.append([])
            return True
        if sign in ENDS_IN and len(self.kinds) < MOST_DEVICES:
            device = len(self.kinds)
            self.kinds.append(sign)
            self.bounds.append(None)
            self.levels[-1].append(((device,), (device,)))
            self.is_part_due = False
            return True
        return False

    def goes_on(self, sign):
        """Read a sign behind a part."""
        if sign in BOUND_DIGITS and self.last in ENDS_IN:
            self.bounds[-1] = BOUND_DIGITS[sign]
            return True
        if len(self.brackets) == 0:
            return False
        if sign == " ":
            self.is_part_due = True
            return True
        if sign == CLOSED_BY[self.brackets[-1]] and len(self.levels[-1]) > 1:
            self.close()
            return True
        return False

    def close(self):
        """Make one part of the parts inside of the last bracket."""
        bracket = self.brackets.pop()
        parts = self.levels.pop()
        if bracket == "(":
            for one, other in zip(parts, parts[1:]):
                self.link(one[1], other[0])
            self.levels[-1].append((parts[0][0], parts[-1][1]))
            return
        entries = [device for part in parts for device in part[0]]
        exits = [device for part in parts for device in part[1]]
        self.levels[-1].append((tuple(entries), tuple(exits)))

    def link(self, sources, targets):
        """Add the links from each source to each target."""
        self.links.extend([(source, target) for source in sources for target in targets])

    def is_whole(self):
        """Return whether a text may end here."""
        return not self.is_part_due and len(self.brackets) == 0

    def finish(self):
        """Add the links from the input and to the output."""
        entries, exits = self.levels[0][0]
        self.link((OUTSIDE,), entries)
        self.link(exits, (OUTSIDE,))


def _plan_of(text):
    """Return the plan of a text, or raise NotYard."""
    plan = Plan()
    for at, sign in enumerate(text):
        if not plan.takes(sign):
            raise NotYard(at)
    if not plan.is_whole():
        raise NotYard(len(text))
    plan.finish()
    return plan


def _check_row(numbers):
    size = len(numbers)
    if size > MOST_WAGONS or sorted(numbers) != list(range(1, size + 1)):
        raise NotRow("not a row")


def _check_machine(machine):
    letters, accepting, table = machine
    states = len(accepting)
    if not 1 <= letters <= MOST_LETTERS or states > MOST_STATES or len(table) != states:
        raise NotMachine("not a machine")
    for targets in table:
        if len(targets) != letters or not all([NOWHERE <= target < states for target in targets]):
            raise NotMachine("not a machine")


def _is_free(plan, row, situation, link):
    """Return whether a link finds a wagon at its source, and room at its target."""
    came, held, _ = situation
    source, target = link
    has_wagon = came < len(row) if source == OUTSIDE else len(held[source]) > 0
    if not has_wagon or target == OUTSIDE:
        return has_wagon
    bound = plan.bounds[target]
    return bound is None or len(held[target]) < bound


def _moves_in(plan, row, situation):
    """Return the moves that can be made in a situation."""
    moves = []
    for source, target in plan.links:
        if not _is_free(plan, row, situation, (source, target)):
            continue
        ends_out = (0,) if source == OUTSIDE else ENDS_OUT[plan.kinds[source]]
        ends_in = (0,) if target == OUTSIDE else ENDS_IN[plan.kinds[target]]
        moves.extend([(source, at, target, to) for at in ends_out for to in ends_in])
    return moves


def _behind(row, situation, move):
    """Return the situation behind a move that can be made."""
    came, held, gone = situation
    source, source_end, target, target_end = move
    tracks = [list(track) for track in held]
    if source == OUTSIDE:
        wagon = row[came]
        came = came + 1
    else:
        wagon = tracks[source].pop(0 if source_end == 0 else len(tracks[source]) - 1)
    if target == OUTSIDE:
        gone = gone + (wagon,)
    else:
        tracks[target].insert(0 if target_end == 0 else len(tracks[target]), wagon)
    return (came, tuple([tuple(track) for track in tracks]), gone)


def _first_situation(plan):
    return (0, ((),) * len(plan.kinds), ())


def _in_order(count):
    return tuple(range(1, count + 1))


def _is_live(situation):
    gone = situation[2]
    return gone == _in_order(len(gone))


def _is_situation(plan, row, situation):
    """Return whether a tuple is a situation of the yard and the row."""
    came, held, gone = situation
    if not 0 <= came <= len(row) or len(held) != len(plan.kinds):
        return False
    for bound, track in zip(plan.bounds, held):
        if bound is not None and len(track) > bound:
            return False
    wagons = list(gone) + [wagon for track in held for wagon in track]
    return sorted(wagons) == sorted(row[:came])


def _sorts(plan, row, moves):
    """Return whether moves are a way for a row."""
    situation = _first_situation(plan)
    for move in moves:
        if move not in _moves_in(plan, row, situation):
            return False
        situation = _behind(row, situation, move)
    return situation[2] == _in_order(len(row))


def _leads_out(plan, row, situation, listed):
    """Return whether a move leads to a live situation that is not listed."""
    for move in _moves_in(plan, row, situation):
        there = _behind(row, situation, move)
        if _is_live(there) and there not in listed:
            return True
    return False


def _is_closed(plan, row, situations):
    """Return whether situations are a closed list for a row."""
    listed = {situation: True for situation in situations}
    if _first_situation(plan) not in listed:
        return False
    for situation in situations:
        if not _is_situation(plan, row, situation) or not _is_live(situation):
            return False
        if len(situation[2]) == len(row) or _leads_out(plan, row, situation, listed):
            return False
    return True


def _shortened(row, wagon):
    """Return a row without a wagon."""
    return [other - 1 if other > wagon else other for other in row if other != wagon]


def is_way(text, row, moves):
    """Return whether moves are a way for a row in a yard."""
    plan = _plan_of(text)
    _check_row(row)
    return _sorts(plan, row, moves)


def is_closed_list(text, row, situations):
    """Return whether situations are a closed list for a yard and a row."""
    plan = _plan_of(text)
    _check_row(row)
    return _is_closed(plan, row, situations)


def is_least_row(text, row, situations, ways):
    """Return whether a closed list and ways are evidence that a row is a least row."""
    plan = _plan_of(text)
    _check_row(row)
    if len(ways) != len(row) or not _is_closed(plan, row, situations):
        return False
    return all([_sorts(plan, _shortened(row, at + 1), way) for at, way in enumerate(ways)])


def is_occurrence(row, pattern, places):
    """Return whether places are an occurrence of a pattern in a row."""
    _check_row(row)
    _check_row(pattern)
    if not all([0 <= place < len(row) for place in places]):
        return False
    if not all([place < other for place, other in zip(places, places[1:])]):
        return False
    wagons = [row[place] for place in places]
    sizes = sorted(wagons)
    return [sizes.index(wagon) + 1 for wagon in wagons] == pattern


def _is_related(one, other, pair, listed):
    """Return whether a pair may stand in a relation of the listed pairs."""
    state, answer = pair
    letters, accepting, table = other
    if not 0 <= state < len(one[1]) or not 0 <= answer < len(accepting):
        return False
    if one[1][state] and not accepting[answer]:
        return False
    for letter, target in enumerate(one[2][state]):
        if target == NOWHERE:
            continue
        if letter >= letters or (target, table[answer][letter]) not in listed:
            return False
    return True


def is_relation(one, other, pairs):
    """Return whether pairs are a relation from one machine to another one."""
    _check_machine(one)
    _check_machine(other)
    listed = {pair: True for pair in pairs}
    if len(one[1]) > 0 and (0, 0) not in listed:
        return False
    return all([_is_related(one, other, pair, listed) for pair in pairs])
