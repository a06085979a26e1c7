"""How fast the numbers of words of a machine grow."""

from yardsort.errors import BadNumber
from yardsort.machines import check_machine, least
from yardsort.minimize import START
from yardsort.series import small_least
from yardsort.wordlists import leads

MOST_PLACES = 6


def _is_above(table, number, scale):
    """Return whether number / scale, which is above 0, is greater than the growth of a table.

    It is so if all leading principal minors of number I - scale M are above
    0. Without fractions (Bareiss), these minors are the pivots.
    """
    grid = [[0] * len(table) for _ in table]
    for state, targets in enumerate(table):
        grid[state][state] = number
        for _, target in leads(targets):
            grid[state][target] -= scale
    before = 1
    for at in range(len(grid)):
        first = grid[at]
        pivot = first[at]
        if pivot <= 0:
            return False
        for row in range(at + 1, len(grid)):
            line = grid[row]
            factor = line[at]
            grid[row] = [(entry * pivot - factor * above) // before for entry, above in zip(line, first)]
        before = pivot
    return True


def growth(machine, places):
    """Return the growth of a machine, times 10^places, rounded down."""
    check_machine(machine)
    if not 0 <= places <= MOST_PLACES:
        raise BadNumber("not a number of places from 0 to 6")
    letters, _, table = small_least(machine)
    scale = 1
    for _ in range(places):
        scale *= 10
    # As a state has at most so many letters, the growth is not above their number.
    low = 0
    high = letters * scale + 1
    while high - low > 1:
        middle = (low + high) // 2
        if _is_above(table, middle, scale):
            high = middle
        else:
            low = middle
    return low


def _finished(table):
    """Return the states in the order in which a search in depth leaves them."""
    order = []
    met = {}
    waiting = [(START, False)] if len(table) > 0 else []
    while waiting:
        state, is_left = waiting.pop()
        if is_left:
            order.append(state)
        elif state not in met:
            met[state] = True
            waiting.append((state, True))
            waiting.extend([(target, False) for _, target in leads(table[state])])
    return order


def _groups(table):
    """Return the groups of states that lead to each other, each group before those it leads to.

    This is the method of Kosaraju: the state that is left last is in a first
    group, which is all that leads to it.
    """
    sources = [[] for _ in table]
    for state, targets in enumerate(table):
        for _, target in leads(targets):
            sources[target].append(state)
    groups = []
    met = {}
    for start in _finished(table)[::-1]:
        waiting = [start]
        group = []
        while waiting:
            state = waiting.pop()
            if state not in met:
                met[state] = True
                group.append(state)
                waiting.extend(sources[state])
        if len(group) > 0:
            groups.append(group)
    return groups


def _most_circles(table, groups, number_of, inside):
    """Return the greatest number of groups with a circle through which one path goes."""
    before = [0] * len(groups)
    most = 0
    for number, group in enumerate(groups):
        through = before[number] + min(1, sum([inside[state] for state in group]))
        most = max(most, through)
        for state in group:
            for _, target in leads(table[state]):
                before[number_of[target]] = max(before[number_of[target]], through)
    return most


def kind(machine):
    """Return whether the numbers of words end, grow slowly, or grow fast."""
    table = least(machine)[2]
    groups = _groups(table)
    number_of = {state: number for number, group in enumerate(groups) for state in group}
    # A state with two letters that lead on within its group is in two circles.
    inside = []
    for state, targets in enumerate(table):
        inside.append(len([target for _, target in leads(targets) if number_of[target] == number_of[state]]))
    if max(inside, default=0) > 1:
        return ("fast", 0)
    most = _most_circles(table, groups, number_of, inside)
    return ("finite", 0) if most == 0 else ("slow", most - 1)
