"""The words of machines: the first ones, lists, pumps, and texts of machines."""

from yardsort.errors import BadNumber, Malformed, TooLarge
from yardsort.machines import MOST_STATES, check_machine, least
from yardsort.minimize import DEAD, START

MOST_LENGTH = 60
MOST_WORDS = 2000
NUMBERS_OF_LETTERS = {"1": 1, "2": 2, "3": 3, "4": 4, "5": 5, "6": 6}
FLAGS = {"+": True, "-": False}
NOWHERE = "."


def leads(targets):
    """Return the letters that lead on from a state, each with its target, in order."""
    return [(letter, target) for letter, target in enumerate(targets, start=1) if target != DEAD]


def check_length(length):
    """Raise BadNumber if words of this length are not asked for."""
    if not 0 <= length <= MOST_LENGTH:
        raise BadNumber("not a length from 0 to 60")


def _letters_to(state, origins):
    """Return the word along which a search came to a state."""
    word = []
    while origins[state] is not None:
        state, letter = origins[state]
        word.append(letter)
    return word[::-1]


def _first_word_from(machine, start):
    """Return the first word that leads from a state to an accepting one, or None."""
    _, accepting, table = machine
    origins = {start: None}
    waiting = [start]
    at = 0
    while at < len(waiting):
        state = waiting[at]
        if accepting[state]:
            return _letters_to(state, origins)
        for letter, target in leads(table[state]):
            if target not in origins:
                origins[target] = (state, letter)
                waiting.append(target)
        at += 1
    return None


def shortest(machine):
    """Return the first word that a machine accepts, or None."""
    check_machine(machine)
    return _first_word_from(machine, START) if len(machine[1]) > 0 else None


def tails(machine, length):
    """Return, for each length from 0 to `length`, the numbers of accepted tails.

    Such a number belongs to a state: so many words of this length lead from
    it to accepting states.
    """
    _, accepting, table = machine
    onward = [[target for target in targets if target != DEAD] for targets in table]
    many = [1 if flag else 0 for flag in accepting]
    found = [many]
    for _ in range(length):
        many = [sum([many[target] for target in targets]) for targets in onward]
        found.append(many)
    return found


def many_words(machine, ways, length):
    """Return how many words of a length a machine with these tails accepts."""
    return ways[length][START] if len(machine[1]) > 0 else 0


def all_words(machine, length):
    """Return all accepted words with this length, in order, however many there are."""
    table = machine[2]
    ways = tails(machine, length)
    begun = [([], START)] if many_words(machine, ways, length) > 0 else []
    for left in range(length - 1, -1, -1):
        many = ways[left]
        begun = [(word + [letter], target) for word, state in begun
                 for letter, target in leads(table[state]) if many[target] > 0]
    return [word for word, _ in begun]


def words_of_length(machine, length):
    """Return all accepted words with this length, in order."""
    check_machine(machine)
    check_length(length)
    if many_words(machine, tails(machine, length), length) > MOST_WORDS:
        raise TooLarge("there are too many words")
    return all_words(machine, length)


def settled_states(table):
    """Return the states from which only finitely many words lead on.

    Each of them stands behind all the states to which its letters lead.
    """
    sources = [[] for _ in table]
    left = []
    for state, targets in enumerate(table):
        onward = leads(targets)
        left.append(len(onward))
        for _, target in onward:
            sources[target].append(state)
    settled = [state for state in range(len(table)) if left[state] == 0]
    at = 0
    while at < len(settled):
        before = sources[settled[at]]
        for state in before:
            left[state] -= 1
            if left[state] == 0:
                settled.append(state)
        at += 1
    return settled


def is_finite(machine):
    """Return whether a machine accepts finitely many words."""
    table = least(machine)[2]
    return len(settled_states(table)) == len(table)


def _way_around(table, settled):
    """Return a word that leads from the start once around a circle.

    With it stand the place in the word at which the circle begins, and the
    state there. The start must not be settled.
    """
    places = {}
    word = []
    state = START
    while state not in places:
        places[state] = len(word)
        onward = [pair for pair in leads(table[state]) if pair[1] not in settled]
        letter, state = onward[0]
        word.append(letter)
    return (word, places[state], state)


def pump(machine):
    """Return a pump of a machine, or None if it accepts finitely many words."""
    small = least(machine)
    table = small[2]
    settled = {state: True for state in settled_states(table)}
    if len(settled) == len(table):
        return None
    word, begin, state = _way_around(table, settled)
    return (word[:begin], word[begin:], _first_word_from(small, state))


def _line_of(flag, targets):
    """Return the line of a state."""
    sign = "+" if flag else "-"
    return " ".join([sign] + [NOWHERE if target == DEAD else str(target) for target in targets])


def machine_text(machine):
    """Return the text of a machine."""
    check_machine(machine)
    letters, accepting, table = machine
    lines = [_line_of(flag, targets) for flag, targets in zip(accepting, table)]
    return "\n".join([str(letters)] + lines)


def _targets_in(line, letters, numbers):
    """Return the targets in the line of a state, or None if it has a fault."""
    words = line.split(" ")
    if len(words) != letters + 1 or words[0] not in FLAGS:
        return None
    if not all([word in numbers for word in words[1:]]):
        return None
    return tuple([numbers[word] for word in words[1:]])


def read_machine(text):
    """Return the machine with a text."""
    head, *lines = text.split("\n")
    if head not in NUMBERS_OF_LETTERS:
        raise Malformed(0)
    letters = NUMBERS_OF_LETTERS[head]
    # Numbers are looked up, because int() would take "01" and "+1", too.
    numbers = {str(state): state for state in range(len(lines))}
    numbers[NOWHERE] = DEAD
    table = []
    for at, line in enumerate(lines, start=1):
        targets = _targets_in(line, letters, numbers)
        if targets is None:
            raise Malformed(at)
        table.append(targets)
    if len(lines) > MOST_STATES:
        raise Malformed(MOST_STATES + 1)
    return (letters, tuple([FLAGS[line[0]] for line in lines]), tuple(table))
