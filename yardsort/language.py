"""The language of a bounded yard, and its machine."""

from yardsort.errors import TooLarge
from yardsort.machines import MOST_STATES, accepts
from yardsort.minimize import DEAD, START, minimized, walked
from yardsort.rows import code_of
from yardsort.shapes import capacity, empty_shape, reached, steps_from
from yardsort.yards import Yard

MOST_CAPACITY = 4


def _steps_by_shape(yard):
    """Return, for each shape that moves reach, the letters and the shapes of its moves."""
    shapes = reached([empty_shape(yard)], lambda shape: [there for _, there in steps_from(yard, shape)])
    return {shape: steps_from(yard, shape) for shape in shapes}


def _along(steps, shape, letter):
    """Return the shapes to which moves with a letter, or without one (None), lead."""
    return [there for other, there in steps[shape] if other == letter]


def _closed(steps, shapes):
    """Return the closed set of some shapes, as a tuple in ascending order."""
    return tuple(reached(shapes, lambda shape: _along(steps, shape, None)))


def _after_letter(steps, shapes, letter):
    """Return the closed set behind one more letter, or None if no move has it."""
    spoken = [there for shape in shapes for there in _along(steps, shape, letter)]
    return _closed(steps, spoken) if len(spoken) > 0 else None


def _sets_of_words(yard, letters):
    """Return the sets of all words, and the table that tells where the letters lead."""
    steps = _steps_by_shape(yard)
    first = _closed(steps, [empty_shape(yard)])
    return walked(first, letters, lambda shapes, letter: _after_letter(steps, shapes, letter), MOST_STATES)


class Language:
    """The words along which moves lead from the empty shape to itself."""

    def __init__(self, text):
        self.yard = Yard(text)
        self.letters = capacity(self.yard)
        if self.letters > MOST_CAPACITY:
            raise TooLarge("the capacity is above 4")
        self._sets, self._table = _sets_of_words(self.yard, self.letters)

    def machine(self):
        """Return the least machine that takes exactly the words of the language."""
        empty = empty_shape(self.yard)
        flags = [empty in shapes for shapes in self._sets]
        return minimized(self.letters, flags, self._table, MOST_STATES)

    def takes(self, word):
        """Return whether a word is in the language."""
        return empty_shape(self.yard) in self.set_of(word)

    def set_of(self, word):
        """Return the set of a word, a list of shapes in ascending order."""
        state = START
        for letter in word:
            if not 1 <= letter <= self.letters:
                return []
            state = self._table[state][letter - 1]
            if state == DEAD:
                return []
        return list(self._sets[state])


def machine_of(text):
    """Return the machine of the language of a yard."""
    return Language(text).machine()


def sorts_by_code(text, row):
    """Return whether the machine of a yard takes the code of a row."""
    machine = machine_of(text)
    return accepts(machine, code_of(row))
