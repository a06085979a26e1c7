"""How two yards compare, and what shows it."""

from yardsort.errors import BadNumber, TooLarge
from yardsort.language import MOST_CAPACITY, machine_of
from yardsort.machines import accepts
from yardsort.minimize import START
from yardsort.products import complement, includes, intersection, union, widen
from yardsort.rows import row_of
from yardsort.wordlists import leads, shortest

MOST_PAIRS = 10000
MOST_YARDS = 20
# The outer index tells whether the first yard sorts no more than the second
# one, the inner one whether the second yard sorts no more than the first one.
ANSWERS = (("apart", "more"), ("fewer", "same"))


def _machine(text):
    """Return the machine of a yard, with as many letters as any other.

    It has a start, because each yard sorts the empty row.
    """
    return widen(machine_of(text), MOST_CAPACITY)


def compare(one, other):
    """Return how the rows that two yards sort compare."""
    first = _machine(one)
    second = _machine(other)
    return ANSWERS[int(includes(second, first))][int(includes(first, second))]


def difference(one, other):
    """Return the first row that one yard alone sorts, and whether it is the first yard, or None."""
    first = _machine(one)
    second = _machine(other)
    outside_both = complement(intersection(first, second))
    word = shortest(intersection(union(first, second), outside_both))
    return None if word is None else (row_of(word), accepts(first, word))


def _onward(first, second, pair):
    """Return the pairs to which the letters lead by which the first machine goes on."""
    state, fellow = pair
    return [(target, second[2][fellow][letter - 1]) for letter, target in leads(first[2][state])]


def pairing(one, other):
    """Return the pairs of states to which words lead, or None if the second yard sorts too little."""
    first = _machine(one)
    second = _machine(other)
    if not includes(second, first):
        return None
    pairs = [(START, START)]
    met = {(START, START): True}
    at = 0
    while at < len(pairs):
        following = _onward(first, second, pairs[at])
        for pair in following:
            if pair not in met:
                met[pair] = True
                pairs.append(pair)
        at += 1
    return pairs


def _is_kept(first, second, pair, listed):
    """Return whether a pair may stand in a pairing of the listed pairs."""
    state, fellow = pair
    if not (0 <= state < len(first[1]) and 0 <= fellow < len(second[1])):
        return False
    if first[1][state] and not second[1][fellow]:
        return False
    return all([there in listed for there in _onward(first, second, pair)])


def is_pairing(one, other, pairs):
    """Return whether a list of pairs is a pairing."""
    first = _machine(one)
    second = _machine(other)
    if len(pairs) > MOST_PAIRS:
        raise TooLarge("there are too many pairs")
    listed = {pair: True for pair in pairs}
    return (START, START) in listed and all([_is_kept(first, second, pair, listed) for pair in listed])


def classes_of(yards):
    """Return for each yard the index of the first yard that sorts the same."""
    if len(yards) > MOST_YARDS:
        raise BadNumber("there are too many yards")
    machines = [_machine(text) for text in yards]
    return [machines.index(machine) for machine in machines]
