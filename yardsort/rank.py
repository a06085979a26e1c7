"""Words and rows by number, without listing them."""

from yardsort.errors import BadNumber, NoRow, NoWord, NotWord
from yardsort.language import machine_of
from yardsort.machines import accepts, check_machine
from yardsort.minimize import DEAD, START
from yardsort.rows import code_of, row_of
from yardsort.wordlists import MOST_LENGTH, check_length, leads, many_words, tails


def count_words(machine, length):
    """Return how many words of a length a machine accepts."""
    check_machine(machine)
    check_length(length)
    return many_words(machine, tails(machine, length), length)


def _check_size(word):
    if len(word) > MOST_LENGTH:
        raise NotWord("the word has more than 60 entries")


def number_of_word(machine, word):
    """Return the number of an accepted word."""
    check_machine(machine)
    _check_size(word)
    letters, _, table = machine
    if not all([1 <= letter <= letters for letter in word]):
        raise NotWord("an entry is not a letter")
    if not accepts(machine, word):
        raise NoWord("the machine does not accept the word")
    ways = tails(machine, len(word))
    number = 0
    state = START
    for at, letter in enumerate(word):
        many = ways[len(word) - at - 1]
        targets = table[state]
        number += sum([many[target] for _, target in leads(targets[:letter - 1])])
        state = targets[letter - 1]
    return number


def _tail_with_number(table, ways, state, length, number):
    """Return the accepted tail of a length, from a state on, with a number that is not too great."""
    tail = []
    for left in range(length - 1, -1, -1):
        many = ways[left]
        onward = leads(table[state])
        for letter, target in onward:
            if number < many[target]:
                tail.append(letter)
                state = target
                break
            number -= many[target]
    return tail


def word_with_number(machine, length, number):
    """Return the word of a length with a number."""
    check_machine(machine)
    check_length(length)
    if number < 0:
        raise BadNumber("the number is negative")
    ways = tails(machine, length)
    if number >= many_words(machine, ways, length):
        raise NoWord("there are not so many words")
    return _tail_with_number(machine[2], ways, START, length, number)


def _states_along(machine, word):
    """Return the states behind the beginnings of a word, as far as it leads."""
    letters, accepting, table = machine
    if len(accepting) == 0:
        return []
    states = [START]
    for letter in word:
        target = table[states[-1]][letter - 1] if 1 <= letter <= letters else DEAD
        if target == DEAD:
            return states
        states.append(target)
    return states


def word_behind(machine, word):
    """Return the first accepted word with the length of a list, and behind it, or None."""
    check_machine(machine)
    _check_size(word)
    table = machine[2]
    ways = tails(machine, len(word))
    states = _states_along(machine, word)
    # The longer a beginning it shares with the list, the earlier a word comes behind it.
    for at in range(min(len(states), len(word)) - 1, -1, -1):
        left = len(word) - at - 1
        onward = leads(table[states[at]])
        for letter, target in onward:
            if letter > word[at] and ways[left][target] > 0:
                return word[:at] + [letter] + _tail_with_number(table, ways, target, left, 0)
    return None


def count_rows(yard, count):
    """Return how many rows of so many wagons a yard sorts."""
    return count_words(machine_of(yard), count)


def place_of_row(yard, row):
    """Return the number of a row that a yard sorts."""
    machine = machine_of(yard)
    code = code_of(row)
    if not accepts(machine, code):
        raise NoRow("the yard does not sort the row")
    return number_of_word(machine, code)


def row_with_number(yard, count, number):
    """Return the row of so many wagons with a number."""
    machine = machine_of(yard)
    try:
        word = word_with_number(machine, count, number)
    except NoWord:
        raise NoRow("there are not so many rows") from None
    return row_of(word)


def row_behind(yard, row):
    """Return the next row with as many wagons that a yard sorts, or None."""
    machine = machine_of(yard)
    word = word_behind(machine, code_of(row))
    return None if word is None else row_of(word)
