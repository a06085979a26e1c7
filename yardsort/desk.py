"""The desk: it answers lines of text about yards, rows and machines with names."""

from yardsort.basis import basis_machine, core, in_basis, whole_basis
from yardsort.compare import compare, difference
from yardsort.errors import YardsortError
from yardsort.growth import kind
from yardsort.language import machine_of, sorts_by_code
from yardsort.machines import accepts
from yardsort.patterns import first_occurrence
from yardsort.rank import count_rows, count_words, place_of_row, row_behind, row_with_number
from yardsort.replay import turned_row
from yardsort.rows import check_row, code_of, complement, direct_sum, inverse, reverse_of, row_text, skew_sum, without
from yardsort.search import solve
from yardsort.trees import tree_of
from yardsort.words import is_name, number_in, words_of
from yardsort.yards import Yard, turned

# The words behind each command: N is a new name, T any text, X a number, A the
# name of anything, Y, R and M are the names of a yard, a row and a machine.
FORMS = {
    "yard": "NT", "row": "N", "drop": "A", "show": "A", "code": "R", "tree": "R",
    "inverse": "NR", "reverse": "NR", "complement": "NR", "turn": "NR",
    "sum": "NRR", "skew": "NRR", "without": "NRX", "find": "RR", "other": "NY",
    "solve": "YR", "takes": "YR", "machine": "NY", "basis": "NY", "accepts": "MR",
    "compare": "YY", "difference": "YY", "least": "Y", "isleast": "YR", "core": "YR",
    "count": "MX", "kind": "M", "rows": "YX", "place": "YR", "at": "NYXX", "behind": "NYR",
}


def _kind_of(thing):
    """Return the letter that the forms have for a kind of things."""
    if isinstance(thing, str):
        return "Y"
    return "R" if isinstance(thing, list) else "M"


def _numbers_text(numbers):
    """Return the text of several integers."""
    return " ".join([str(number) for number in numbers]) if len(numbers) > 0 else "empty"


def _yes_or_no(is_so):
    return "yes" if is_so else "no"


def _new_yard(given):
    return Yard(given[1]).text


def _new_row(given):
    row = given[1:]
    check_row(row)
    return row


def _new_inverse(given):
    return inverse(given[1])


def _new_reverse(given):
    return reverse_of(given[1])


def _new_complement(given):
    return complement(given[1])


def _new_turned_row(given):
    return turned_row(given[1])


def _new_sum(given):
    return direct_sum(given[1], given[2])


def _new_skew_sum(given):
    return skew_sum(given[1], given[2])


def _new_shorter_row(given):
    return without(given[1], given[2])


def _new_turned_yard(given):
    return turned(given[1])


def _new_machine(given):
    return machine_of(given[1])


def _new_basis_machine(given):
    return basis_machine(given[1])


def _new_row_with_number(given):
    return row_with_number(given[1], given[2], given[3])


def _new_row_behind(given):
    return row_behind(given[1], given[2])


def _shown(given):
    thing = given[0]
    if isinstance(thing, str):
        return thing
    return _numbers_text(thing) if isinstance(thing, list) else str(len(thing[1]))


def _code(given):
    return _numbers_text(code_of(given[0]))


def _tree(given):
    return tree_of(given[0])


def _found(given):
    places = first_occurrence(given[0], given[1])
    return "no" if places is None else _numbers_text(places)


def _solved(given):
    moves = solve(Yard(given[0]), given[1])
    if moves is None:
        return "no"
    if len(moves) == 0:
        return "empty"
    return " ".join([",".join([str(number) for number in move]) for move in moves])


def _takes(given):
    return _yes_or_no(sorts_by_code(given[0], given[1]))


def _accepts(given):
    return _yes_or_no(accepts(given[0], code_of(given[1])))


def _compared(given):
    return compare(given[0], given[1])


def _difference(given):
    found = difference(given[0], given[1])
    if found is None:
        return "no"
    row, is_first = found
    which = "first" if is_first else "second"
    return f"{which} {row_text(row)}"


def _least_rows(given):
    rows = whole_basis(given[0])
    if rows is None:
        return "endless"
    return " / ".join([row_text(row) for row in rows]) if len(rows) > 0 else "empty"


def _is_least(given):
    return _yes_or_no(in_basis(given[0], given[1]))


def _core(given):
    wagons = core(given[0], given[1])
    return "no" if wagons is None else _numbers_text(wagons)


def _count(given):
    return str(count_words(given[0], given[1]))


def _kind(given):
    word, degree = kind(given[0])
    return f"{word} {degree}"


def _row_count(given):
    return str(count_rows(given[0], given[1]))


def _place(given):
    return str(place_of_row(given[0], given[1]))


# These commands make the thing that the first name has from then on.
MAKERS = {
    "yard": _new_yard, "row": _new_row, "inverse": _new_inverse, "reverse": _new_reverse,
    "complement": _new_complement, "turn": _new_turned_row, "sum": _new_sum, "skew": _new_skew_sum,
    "without": _new_shorter_row, "other": _new_turned_yard, "machine": _new_machine,
    "basis": _new_basis_machine, "at": _new_row_with_number, "behind": _new_row_behind,
}

# These commands tell something, and leave the desk as it is.
TELLERS = {
    "show": _shown, "code": _code, "tree": _tree, "find": _found, "solve": _solved, "takes": _takes,
    "accepts": _accepts, "compare": _compared, "difference": _difference, "least": _least_rows,
    "isleast": _is_least, "core": _core, "count": _count, "kind": _kind, "rows": _row_count, "place": _place,
}


def _form_of(words):
    """Return the form of the words behind a command, or None if there is no such command."""
    if words[0] == "row":
        return "N" + "X" * (len(words) - 2)
    return FORMS.get(words[0])


def _fits(sign, word):
    """Return whether a word may stand for a letter of a form."""
    if sign == "T":
        return True
    return number_in(word) is not None if sign == "X" else is_name(word)


def _is_good(words):
    """Return whether the words of a line are a command with the words that it takes."""
    if words is None:
        return False
    form = _form_of(words)
    if form is None or len(form) != len(words) - 1:
        return False
    return all([_fits(sign, word) for sign, word in zip(form, words[1:])])


class Desk:
    """Answers lines, and has the things that they put under names.

    A yard is its text, a row a list, and a machine a tuple.
    """

    def __init__(self):
        self._things = {}

    def names(self):
        """Return the sorted list of the names that have something."""
        return sorted(self._things)

    def thing(self, name):
        """Return the thing that a name has, or None."""
        found = self._things.get(name)
        return list(found) if isinstance(found, list) else found

    def copied(self):
        """Return another desk that has the same things."""
        other = Desk()
        other._things = dict(self._things)
        return other

    def answer(self, line):
        """Answer a line."""
        words = words_of(line)
        if not _is_good(words):
            return "bad"
        form = _form_of(words)
        fault = self._fault(form, words[1:])
        if fault is not None:
            return fault
        if words[0] == "drop":
            del self._things[words[1]]
            return "ok"
        try:
            return self._carried_out(words[0], self._given(form, words[1:]))
        except YardsortError:
            return "refused"

    def answers(self, lines):
        """Answer several lines in order."""
        return [self.answer(line) for line in lines]

    def _fault(self, form, words):
        """Return the answer for the first name that has not what it must have, or None."""
        for sign, word in zip(form, words):
            if sign not in "AYRM":
                continue
            if word not in self._things:
                return f"unknown {word}"
            if sign != "A" and sign != _kind_of(self._things[word]):
                return f"kind {word}"
        return None

    def _given(self, form, words):
        """Return what the words of a command stand for."""
        given = []
        for sign, word in zip(form, words):
            if sign in "AYRM":
                given.append(self._things[word])
            else:
                given.append(number_in(word) if sign == "X" else word)
        return given

    def _carried_out(self, command, given):
        """Carry out a command and return its answer."""
        if command in TELLERS:
            teller = TELLERS[command]
            return teller(given)
        maker = MAKERS[command]
        thing = maker(given)
        if thing is None:
            return "none"
        self._things[given[0]] = thing
        return str(len(thing[1])) if isinstance(thing, tuple) else "ok"
