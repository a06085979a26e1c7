"""Tables of states, of whatever size: how they are walked, and their least machines."""

from yardsort.errors import TooLarge

DEAD = -1
START = 0


def _reached(links, starts):
    """Return for each state whether links lead to it from the starts."""
    marks = [False] * len(links)
    waiting = list(starts)
    while waiting:
        state = waiting.pop()
        if not marks[state]:
            marks[state] = True
            waiting.extend([other for other in links[state] if other != DEAD])
    return marks


def _useful_states(accepting, table):
    """Return the states on the ways from state 0 to accepting states."""
    sources = [[] for _ in table]
    for state, row in enumerate(table):
        for target in row:
            if target != DEAD:
                sources[target].append(state)
    ends = [state for state in range(len(table)) if accepting[state]]
    from_start = _reached(table, [0] if len(table) > 0 else [])
    to_end = _reached(sources, ends)
    return [state for state in range(len(table)) if from_start[state] and to_end[state]]


class Partition:
    """States in classes, split until the states of each class are alike.

    A class is a dict of its states. It waits as long as other classes have
    to be split by the states that lead into it. Of two halves only the
    smaller one has to wait, unless the whole did (Hopcroft's rule): so each
    state is looked at only a few times, and long chains stay cheap.
    """

    def __init__(self, letters, accepting, table, states):
        self.class_of = {}
        self.classes = []
        self.is_waiting = []
        self.waiting = []
        ends = {state: True for state in states if accepting[state]}
        others = {state: True for state in states if not accepting[state]}
        for members in (ends, others):
            if len(members) > 0:
                self.wait_for(self.add_class(members))
        self.sources = [{} for _ in range(letters)]
        for state in states:
            for letter, target in enumerate(table[state]):
                if target in self.class_of:
                    self.sources[letter].setdefault(target, []).append(state)

    def add_class(self, members):
        """Add a class with these members, and return its number."""
        number = len(self.classes)
        self.classes.append(members)
        self.is_waiting.append(False)
        for state in members:
            self.class_of[state] = number
        return number

    def wait_for(self, number):
        """Let a class wait."""
        self.is_waiting[number] = True
        self.waiting.append(number)

    def split_all(self, most):
        """Split until no class waits, or raise TooLarge above `most` classes."""
        while self.waiting:
            number = self.waiting.pop()
            self.is_waiting[number] = False
            splitter = list(self.classes[number])
            for sources in self.sources:
                self.split_by(splitter, sources)
                if len(self.classes) > most:
                    raise TooLarge("the least machine has too many states")

    def split_by(self, splitter, sources):
        """Split each class into the states that lead into a list and the others."""
        hits = {}
        for target in splitter:
            for state in sources.get(target, []):
                hits.setdefault(self.class_of[state], []).append(state)
        for number, states in hits.items():
            if len(states) < len(self.classes[number]):
                self.take_out(number, states)

    def take_out(self, number, states):
        """Move some of the states of a class into a new class."""
        rest = self.classes[number]
        for state in states:
            del rest[state]
        fresh = self.add_class({state: True for state in states})
        if self.is_waiting[number] or len(states) <= len(rest):
            self.wait_for(fresh)
        else:
            self.wait_for(number)


def _numbered(letters, accepting, table, class_of):
    """Return the machine of the classes, in the order of their first words."""
    members = [0]
    numbers = {class_of[0]: 0}
    rows = []
    while len(rows) < len(members):
        row = []
        targets = table[members[len(rows)]]
        for target in targets:
            if target not in class_of:
                row.append(DEAD)
                continue
            if class_of[target] not in numbers:
                numbers[class_of[target]] = len(members)
                members.append(target)
            row.append(numbers[class_of[target]])
        rows.append(tuple(row))
    return (letters, tuple([accepting[state] for state in members]), tuple(rows))


def walked(first, letters, onward, most=None):
    """Return the list of all that is met from `first` on, and its table.

    `onward` returns what a letter leads to, or None; what it returns is a
    key of a dict. Raises TooLarge if more than `most` would be met, where
    `most` is given.
    """
    met = [first]
    numbers = {first: START, None: DEAD}
    table = []
    while len(table) < len(met):
        here = met[len(table)]
        targets = []
        for letter in range(1, letters + 1):
            there = onward(here, letter)
            if there not in numbers:
                if len(met) == most:
                    raise TooLarge("there is too much to walk through")
                numbers[there] = len(met)
                met.append(there)
            targets.append(numbers[there])
        table.append(tuple(targets))
    return (met, table)


def minimized(letters, accepting, table, most):
    """Return the least machine of a table, or raise TooLarge above `most` states."""
    states = _useful_states(accepting, table)
    if len(states) == 0:
        return (letters, (), ())
    partition = Partition(letters, accepting, table, states)
    partition.split_all(most)
    return _numbered(letters, accepting, table, partition.class_of)
