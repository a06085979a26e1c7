"""Slow and simple counterparts of the program, for its tests."""

from fractions import Fraction
from itertools import combinations, permutations, product
from math import gcd, lcm

TAKES = {"s": (1,), "q": (1,), "d": (0, 1), "i": (1,), "o": (0, 1)}
GIVES = {"s": (1,), "q": (0,), "d": (0, 1), "i": (0, 1), "o": (1,)}


def rows_with(count):
    """All rows with so many wagons, in order."""
    return [list(row) for row in permutations(range(1, count + 1))]


def rows_up_to(count):
    """All rows with at most so many wagons, in order."""
    return [row for size in range(count + 1) for row in rows_with(size)]


def pattern_of(wagons):
    """The row with the same order of sizes as different integers."""
    return [1 + sum(1 for other in wagons if other < wagon) for wagon in wagons]


def all_occurrences(row, pattern):
    """All occurrences of a pattern in a row, in order."""
    places = combinations(range(len(row)), len(pattern))
    return [list(some) for some in places if pattern_of([row[place] for place in some]) == pattern]


def code(row):
    """The code of a row, as the document defines it."""
    return [sum(1 for v in row if v >= w and row.index(v) <= row.index(w)) for w in range(1, len(row) + 1)]


def turn_row(row):
    """The turned row, as the document defines it."""
    size = len(row)
    return [size + 1 - (row.index(size + 1 - place) + 1) for place in range(1, size + 1)]


def fault_of(text):
    """The index of the fault in the text of a yard, or None if it has none."""
    opened = []
    devices = 0
    state = "yard"
    for at, sign in enumerate(text):
        if state == "yard" and sign in "([" and len(opened) < 8:
            opened.append([sign, 0])
        elif state == "yard" and sign in "sqdio" and devices < 8:
            devices += 1
            state = "bound"
        elif state == "bound" and sign in "123456":
            state = "behind"
        elif state != "yard" and sign == " " and opened:
            opened[-1][1] += 1
            state = "yard"
        elif state != "yard" and sign in ")]" and opened and opened[-1][1] and opened[-1][0] == {")": "(", "]": "["}[sign]:
            opened.pop()
            state = "behind"
        else:
            return at
    return len(text) if opened or state == "yard" else None


def possible(kinds, bounds, links, row, situation):
    """The moves that can be made, found by trying every tuple."""
    came, held, gone = situation
    moves = []
    for source, start, target, end in product(range(-1, len(kinds)), (0, 1), range(-1, len(kinds)), (0, 1)):
        if (source, target) not in links:
            continue
        if source == -1 and (start == 1 or came == len(row)):
            continue
        if source >= 0 and (not held[source] or start not in GIVES[kinds[source]]):
            continue
        if target == -1 and end == 1:
            continue
        if target >= 0 and end not in TAKES[kinds[target]]:
            continue
        if target >= 0 and bounds[target] is not None and len(held[target]) >= bounds[target]:
            continue
        moves.append((source, start, target, end))
    return moves


def moved(row, situation, move):
    """The situation after a move that can be made."""
    came, held, gone = situation
    source, start, target, end = move
    tracks = [list(track) for track in held]
    gone = list(gone)
    if source == -1:
        wagon = row[came]
        came += 1
    else:
        wagon = tracks[source].pop(0 if start == 0 else len(tracks[source]) - 1)
    if target == -1:
        gone.append(wagon)
    elif end == 0:
        tracks[target].insert(0, wagon)
    else:
        tracks[target].append(wagon)
    return came, tuple(tuple(track) for track in tracks), tuple(gone)


def is_live(situation):
    """Whether the wagons that have gone out are 1, 2, .., k."""
    return list(situation[2]) == list(range(1, len(situation[2]) + 1))


def first_way(yard, row, start=None):
    """The first of the ways with the fewest moves, or None: level by level, over whole ways."""
    level = {start or (0, ((),) * len(yard.kinds), ()): []}
    seen = set(level)
    while level:
        for situation in level:
            if len(situation[2]) == len(row):
                return level[situation]
        following = {}
        for situation, way in level.items():
            for move in possible(yard.kinds, yard.bounds, yard.links, row, situation):
                there = moved(row, situation, move)
                if is_live(there) and there not in seen:
                    following[there] = min(following.get(there, way + [move]), way + [move])
        seen.update(following)
        level = following
    return None


def live_situations(yard, row, start=None):
    """All live situations to which moves lead, in ascending order."""
    waiting = [start or (0, ((),) * len(yard.kinds), ())]
    seen = set(waiting)
    for situation in waiting:
        for move in possible(yard.kinds, yard.bounds, yard.links, row, situation):
            there = moved(row, situation, move)
            if is_live(there) and there not in seen:
                seen.add(there)
                waiting.append(there)
    return sorted(seen)


def words_up_to(letters, length):
    """All words of the letters 1 to `letters`, shorter ones first, in order."""
    return [list(word) for size in range(length + 1) for word in product(range(1, letters + 1), repeat=size)]


def state_behind(machine, word):
    """The state behind a word, or -1."""
    letters, accepting, table = machine
    state = 0 if accepting else -1
    for letter in word:
        if state == -1 or letter > letters:
            return -1
        state = table[state][letter - 1]
    return state


def accepted(machine, word):
    """Whether a machine accepts a word."""
    state = state_behind(machine, word)
    return state != -1 and machine[1][state]


def first_words(machine):
    """The first word that leads to each state that words lead to, by state, in the order of the words."""
    words = {0: []} if machine[1] else {}
    waiting = list(words)
    for state in waiting:
        for letter, target in enumerate(machine[2][state], 1):
            if target != -1 and target not in words:
                words[target] = words[state] + [letter]
                waiting.append(target)
    return words


def differing(machine):
    """All pairs of states that are not alike, the lost state -1 being one of them."""
    letters, accepting, table = machine
    states = range(-1, len(accepting))

    def lead(state, letter):
        return -1 if state == -1 else table[state][letter]

    pairs = {(p, q) for p in states for q in states if (p >= 0 and accepting[p]) != (q >= 0 and accepting[q])}
    grown = True
    while grown:
        grown = False
        for p, q in product(states, states):
            if (p, q) not in pairs and any((lead(p, k), lead(q, k)) in pairs for k in range(letters)):
                pairs.add((p, q))
                grown = True
    return pairs


def is_least(machine):
    """Whether all states are useful, no two are alike, and the numbers follow the first words."""
    words = first_words(machine)
    if list(words) != list(range(len(machine[1]))):
        return False
    pairs = differing(machine)
    states = range(-1, len(machine[1]))
    return all((p, q) in pairs for p in states for q in states if p != q)


def circle(length, letters=1, accepting=(0,)):
    """The machine in which every letter leads on, in a circle."""
    flags = tuple(state in accepting for state in range(length))
    return (letters, flags, tuple(((state + 1) % length,) * letters for state in range(length)))


def chain(length):
    """The machine of one letter that accepts the one word that leads to its last state."""
    flags = tuple(state == length - 1 for state in range(length))
    return (1, flags, tuple((state + 1 if state + 1 < length else -1,) for state in range(length)))


def random_machine(source, letters, states):
    """A machine with so many letters and states."""
    flags = tuple(source.random() < 0.4 for _ in range(states))
    table = tuple(tuple(source.randrange(-1, states) for _ in range(letters)) for _ in range(states))
    return (letters, flags, table)


def words_with(machine, length):
    """All accepted words with this length, in order."""
    words = product(range(1, machine[0] + 1), repeat=length)
    return [list(word) for word in words if accepted(machine, list(word))]


def accepts_words_for_ever(machine):
    """Whether a machine accepts infinitely many words: then some, not longer than twice its states, goes round."""
    letters, accepting, table = machine
    states = range(len(accepting))
    here = {0} if accepting else set()
    for length in range(2 * len(accepting)):
        if length >= len(accepting) and any(accepting[state] for state in here):
            return True
        here = {table[state][k] for state in here for k in range(letters)} - {-1}
    return False


def removed(row, wagon):
    """The row without a wagon."""
    return pattern_of([other for other in row if other != wagon])


def one_too_many(machine, row):
    """Whether a machine accepts the codes of all rows without one wagon."""
    return all(accepted(machine, code(removed(row, wagon))) for wagon in row)


def shape_moves(yard, shape):
    """The letter, or None, and the new shape of each move from a shape."""
    many = sum(len(track) for track in shape)
    found = []
    for move in possible(yard.kinds, yard.bounds, yard.links, [many + 1], (0, shape, ())):
        _, held, gone = moved([many + 1], (0, shape, ()), move)
        letter = gone[0] if gone else None
        if gone:
            held = tuple(tuple(rank - (rank > letter) for rank in track) for track in held)
        found.append((letter, held))
    return found


def closed(yard, shapes):
    """The closed set of some shapes."""
    found = set(shapes)
    waiting = list(found)
    while waiting:
        for letter, there in shape_moves(yard, waiting.pop()):
            if letter is None and there not in found:
                found.add(there)
                waiting.append(there)
    return found


def set_of_word(yard, word):
    """The set of a word, by its definition."""
    shapes = closed(yard, [((),) * len(yard.kinds)])
    for wanted in word:
        spoken = [there for shape in shapes for letter, there in shape_moves(yard, shape) if letter == wanted]
        shapes = closed(yard, spoken)
    return shapes


def sorted_by_moves(yard, row):
    """Whether some moves sort the row, found without any words."""
    return first_way(yard, row) is not None


def pairs_of_states(first, second):
    """The pairs of states behind the words that go on in one of the machines, each with its first word, in order.

    A state of a machine that does not go on is -1.
    """
    pairs = {(0, 0): []}
    waiting = [(0, 0)]
    for pair in waiting:
        for letter in range(1, max(first[0], second[0]) + 1):
            there = tuple(machine[2][state][letter - 1] if state != -1 and letter <= machine[0] else -1
                          for machine, state in ((first, pair[0]), (second, pair[1])))
            if there not in pairs:
                pairs[there] = pairs[pair] + [letter]
                waiting.append(there)
    return pairs


def rows_of_basis(yard, count):
    """All rows of the basis of a yard with so many wagons, in order, found by moves."""
    rows = [row for row in rows_with(count) if not sorted_by_moves(yard, row)]
    return [row for row in rows if all(sorted_by_moves(yard, removed(row, wagon)) for wagon in row)]


def counted(machine, length):
    """How many words of each length up to a greatest one a machine accepts: by a matrix of states and letters."""
    letters, accepting, table = machine
    here = [1] + [0] * (len(accepting) - 1) if accepting else []
    found = []
    for _ in range(length + 1):
        found.append(sum(many for many, flag in zip(here, accepting) if flag))
        following = [0] * len(accepting)
        for many, row in zip(here, table):
            for target in row:
                if target != -1:
                    following[target] += many
        here = following
    return found


def product_of(one, other):
    """The product of two lists of coefficients, without zeros at the end."""
    total = [sum(one[k] * other[at - k] for k in range(len(one)) if 0 <= at - k < len(other))
             for at in range(len(one) + len(other))]
    return shortened(total)


def shortened(numbers):
    """A list without the zeros at its end."""
    numbers = list(numbers)
    while numbers and numbers[-1] == 0:
        numbers.pop()
    return numbers


def common_divisor(one, other):
    """The greatest common divisor of two polynomials, by Euclid over the fractions."""
    content = gcd(*one, *other)
    left, right = [Fraction(number) for number in one], [Fraction(number) for number in other]
    while right:
        rest = left
        while len(rest) >= len(right):
            factor, shift = rest[-1] / right[-1], len(rest) - len(right)
            rest = shortened([number - (factor * right[at - shift] if at >= shift else 0)
                              for at, number in enumerate(rest)][:-1])
        left, right = right, rest
    if not left:
        return []
    whole = [number * lcm(*[number.denominator for number in left]) for number in left]
    part = gcd(*[int(number) for number in whole])
    sign = 1 if whole[-1] > 0 else -1
    return [sign * content * int(number) // part for number in whole]


def determinant(rows):
    """The determinant of a matrix, along its first row."""
    if not rows:
        return 1
    return sum((-1) ** at * entry * determinant([row[:at] + row[at + 1:] for row in rows[1:]])
               for at, entry in enumerate(rows[0]) if entry != 0)


def exceeds_growth(machine, x):
    """Whether a rational number above 0 is greater than the growth of a least machine."""
    size = len(machine[1])
    rows = [[(x if p == q else 0) - machine[2][p].count(q) for q in range(size)] for p in range(size)]
    return all(determinant([row[:order] for row in rows[:order]]) > 0 for order in range(1, size + 1))


def circles(machine):
    """All circles of a machine, each a list of pairs of a state and a letter, begun at its least state."""
    found = []

    def walk(first, way, state):
        for letter, target in enumerate(machine[2][state], 1):
            if target == first:
                found.append(way + [(state, letter)])
            elif target > first and target not in [step[0] for step in way] + [state]:
                walk(first, way + [(state, letter)], target)

    for first in range(len(machine[1])):
        walk(first, [], first)
    return found


def kind_of(machine):
    """The kind of a least machine, by its circles."""
    found = circles(machine)
    if not found:
        return ("finite", 0)
    states = [[state for state, _ in circle] for circle in found]
    if len(sum(states, [])) > len(set(sum(states, []))):
        return ("fast", 0)

    def behind(state):
        met = [state]
        for here in met:
            met.extend({target for target in machine[2][here] if target != -1 and target not in met})
        return met

    def longest(at):
        others = [k for k in range(len(states)) if k != at and states[k][0] in behind(states[at][0])]
        return 1 + max([longest(k) for k in others], default=0)

    return ("slow", max(longest(at) for at in range(len(states))) - 1)


def sortable_row(yard, count, source):
    """A row of so many wagons that a yard sorts: wagons are moved at random, and numbered as they go out."""
    places = list(range(count))
    came, held, gone = 0, ((),) * len(yard.kinds), ()
    while len(gone) < count:
        moves = possible(yard.kinds, yard.bounds, yard.links, places, (came, held, gone))
        came, held, gone = moved(places, (came, held, gone), source.choice(moves))
    return [gone.index(place) + 1 for place in places]


def is_sum(row):
    """Whether a row is a direct sum of two rows that are not empty."""
    return any(max(row[:cut]) < min(row[cut:]) for cut in range(1, len(row)))


def is_skew(row):
    """Whether a row is a skew sum of two rows that are not empty."""
    return any(min(row[:cut]) > max(row[cut:]) for cut in range(1, len(row)))


def all_blocks(row):
    """All blocks of a row, the trivial ones among them, in ascending order."""
    pairs = [(first, last) for first in range(len(row)) for last in range(first, len(row))]
    return [pair for pair in pairs if pattern_of(row[pair[0]:pair[1] + 1]) ==
            [1 + wagon - min(row[pair[0]:pair[1] + 1]) for wagon in row[pair[0]:pair[1] + 1]]]


def is_simple_row(row):
    """Whether a row is simple: no sum, and no block but those of one place and of all."""
    return len(row) >= 4 and all(last in (first, first + len(row) - 1) for first, last in all_blocks(row))


def inflated(pattern, parts):
    """The inflation of a pattern: the wagons in the order of their pairs of numbers."""
    pairs = [(wagon, number) for wagon, part in zip(pattern, parts) for number in part]
    return [1 + sorted(pairs).index(pair) for pair in pairs]


def decompositions(row):
    """All tuples that the document calls decompositions of a row."""
    found = [("one", [1], [[1]])] if row == [1] else []
    for many in range(2, len(row) + 1):
        for cuts in combinations(range(1, len(row)), many - 1):
            starts = [0, *cuts]
            parts = [pattern_of(row[one:other]) for one, other in zip(starts, [*cuts, len(row)])]
            # No other pattern can have this inflation.
            pattern = pattern_of([row[start] for start in starts])
            if inflated(pattern, parts) != row:
                continue
            if pattern == sorted(pattern) and not any(is_sum(part) for part in parts):
                found.append(("sum", pattern, parts))
            if pattern == sorted(pattern)[::-1] and not any(is_skew(part) for part in parts):
                found.append(("skew", pattern, parts))
            if is_simple_row(pattern) and not is_sum(row) and not is_skew(row):
                found.append(("simple", pattern, parts))
    return found
