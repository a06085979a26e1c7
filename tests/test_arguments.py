"""No argument is modified, and no result shares a list with an argument or with another result."""

import copy
import importlib
import unittest

from test_interface import FUNCTIONS
from yardsort.desk import Desk
from yardsort.journal import Journal
from yardsort.language import Language
from yardsort.plan import Shift
from yardsort.yards import Yard

GOLDEN = (2, (True, False), ((0, 1), (0, -1)))
THREE = (3, (True, True), ((0, 1, -1), (1, -1, 0)))
IN, OUT = (-1, 0, 0, 1), (0, 1, -1, 0)
FIRST = (0, ((),), ())
FIVE = [(0, ((),), ()), (1, ((2,),), ()), (2, ((2, 3),), ()), (3, ((2, 3),), (1,)), (3, ((2, 3, 1),), ())]
WAYS = [[IN, OUT, IN, OUT], [IN, IN, OUT, OUT], [IN, IN, OUT, OUT]]
STACK = Yard("s")

# For each function some lists of arguments; the functions of a shift get one of their own.
CALLS = {
    "rows.is_row": [[[2, 1]], [[]]],
    "rows.row_text": [[[2, 1]], [[]]],
    "rows.read_row": [["2 1"], [""]],
    "rows.code_of": [[[3, 1, 2]], [[]], [[1]]],
    "rows.row_of": [[[2, 2, 1]], [[]], [[1]]],
    "rows.inverse": [[[3, 1, 2]], [[]], [[1]]],
    "rows.reverse_of": [[[3, 1, 2]], [[]], [[1]]],
    "rows.complement": [[[3, 1, 2]], [[]], [[1]]],
    "rows.direct_sum": [[[2, 1], [1]], [[], [2, 1]], [[2, 1], []], [[], []]],
    "rows.skew_sum": [[[2, 1], [1]], [[], [2, 1]], [[2, 1], []], [[], []]],
    "rows.without": [[[2, 3, 1], 2], [[1], 1], [[1, 2], 2]],
    "rows.comes_before": [[[2, 1], [1]]],
    "patterns.pattern_at": [[[3, 1, 4, 2], [0, 2, 3]], [[1], []], [[1, 2], [0, 1]]],
    "patterns.first_occurrence": [[[3, 1, 4, 2], [2, 3, 1]], [[1], [1]], [[], []]],
    "patterns.contains": [[[3, 1, 4, 2], [2, 3, 1]]],
    "patterns.occurrences": [[[3, 1, 4, 2], [2, 1]]],
    "patterns.patterns_of": [[[3, 1, 4, 2], 3], [[3, 1, 2], 3], [[1], 0]],
    "patterns.first_contained": [[[3, 1, 4, 2], [[1, 2, 3], [2, 1]]]],
    "yards.turned": [["(s2 q)"]],
    "yards.turned_numbers": [["(s2 q)"], ["s"]],
    "moves.first_situation": [[STACK, [2, 1]]],
    "moves.check_situation": [[STACK, [2, 1], FIRST]],
    "moves.moves_of": [[STACK, [2, 1], FIRST]],
    "moves.made": [[STACK, [2, 1], FIRST, IN]],
    "replay.replay": [[STACK, [2, 1], [IN, IN, OUT, OUT]], [STACK, [], []]],
    "replay.sorts": [[STACK, [2, 1], [IN, IN, OUT, OUT]]],
    "replay.taken": [[STACK, [2, 1], [IN, IN, OUT, OUT]], [STACK, [], []]],
    "replay.without_wagon": [[STACK, [2, 1], [IN, IN, OUT, OUT], 2], [STACK, [1], [], 1]],
    "replay.turned_moves": [[STACK, [IN, IN, OUT, OUT]], [STACK, []]],
    "replay.turned_row": [[[3, 1, 2]], [[]]],
    "search.is_live": [[FIRST]],
    "search.solve": [[STACK, [2, 1]], [STACK, []]],
    "search.fewest": [[STACK, [2, 1]]],
    "search.can_sort": [[STACK, [2, 3, 1]]],
    "search.sorted_rows": [[STACK, 3], [STACK, 0]],
    "closed.closed_list": [[STACK, [2, 3, 1]]],
    "closed.is_closed": [[STACK, [2, 3, 1], FIVE]],
    "closed.first_gap": [[STACK, [2, 3, 1], FIVE[1:]]],
    "machines.is_machine": [[GOLDEN]],
    "machines.check_machine": [[GOLDEN]],
    "machines.accepts": [[GOLDEN, [2, 1]]],
    "machines.least": [[GOLDEN]],
    "machines.same_words": [[GOLDEN, GOLDEN]],
    "products.complement": [[GOLDEN]],
    "products.union": [[GOLDEN, GOLDEN]],
    "products.intersection": [[GOLDEN, GOLDEN]],
    "products.difference": [[GOLDEN, GOLDEN]],
    "products.widen": [[GOLDEN, 3]],
    "products.includes": [[GOLDEN, THREE]],
    "wordlists.shortest": [[GOLDEN], [THREE]],
    "wordlists.words_of_length": [[GOLDEN, 3], [GOLDEN, 0]],
    "wordlists.is_finite": [[GOLDEN]],
    "wordlists.pump": [[GOLDEN], [THREE]],
    "wordlists.machine_text": [[GOLDEN]],
    "wordlists.read_machine": [["2\n+ 0 1\n- 0 ."]],
    "shapes.capacity": [[Yard("s2")]],
    "shapes.empty_shape": [[Yard("s2")]],
    "shapes.silent": [[Yard("(s2 q1)"), ((1,), ())]],
    "shapes.spoken": [[Yard("(s2 q1)"), ((), (1,)), 1]],
    "shapes.closed_set": [[Yard("(s2 q1)"), [((), ())]], [Yard("(s2 q1)"), [((1, 2), (3,))]], [Yard("(s2 q1)"), []]],
    "language.machine_of": [["s2"]],
    "language.sorts_by_code": [["s2", [3, 1, 2]]],
    "compare.compare": [["s2", "q2"]],
    "compare.difference": [["s2", "q2"]],
    "compare.pairing": [["q2", "s2"]],
    "compare.is_pairing": [["q2", "s2", [(0, 0)]]],
    "compare.classes_of": [[["s1", "q2", "s2"]], [[]]],
    "deleted.lost": [[GOLDEN]],
    "deleted.is_one_too_many": [[GOLDEN, [2, 1, 3]]],
    "basis.basis_machine": [["s2"]],
    "basis.in_basis": [["s2", [2, 3, 1]]],
    "basis.basis_rows": [["s2", 3]],
    "basis.whole_basis": [["s2"]],
    "basis.family": [["s2"]],
    "basis.core": [["s2", [2, 3, 1]], ["s2", [2, 4, 3, 1]]],
    "polynomials.is_polynomial": [[[1, -1]]],
    "polynomials.add": [[[1, -1], [2]], [[], [2]], [[2], []], [[], []]],
    "polynomials.multiply": [[[1, -1], [2]], [[], [2]], [[1], [2]], [[2], [1]]],
    "polynomials.greatest_common": [[[1, -1], [2]], [[], [2, 4]], [[2, 4], []], [[2, 4], [2, 4]], [[], []]],
    "polynomials.divided": [[[1, -1], [1]], [[], [2]], [[2, 4], [2, 4]]],
    "series.counts": [[GOLDEN, 5]],
    "series.total": [[GOLDEN]],
    "series.series": [[GOLDEN], [(1, (), ())]],
    "series.expand": [[([1], [1, -1, -1]), 5], [([], [1]), 2]],
    "series.is_reduced": [[([1], [1, -1, -1])]],
    "growth.growth": [[GOLDEN, 3]],
    "growth.kind": [[GOLDEN]],
    "rank.count_words": [[GOLDEN, 5]],
    "rank.number_of_word": [[GOLDEN, [2, 1, 1]]],
    "rank.word_with_number": [[GOLDEN, 3, 1], [GOLDEN, 0, 0]],
    "rank.word_behind": [[GOLDEN, [1, 1, 2]], [GOLDEN, []]],
    "rank.count_rows": [["s2", 5]],
    "rank.place_of_row": [["s2", [2, 1, 3]]],
    "rank.row_with_number": [["s2", 3, 3], ["s2", 0, 0]],
    "rank.row_behind": [["s2", [2, 1, 3]], ["s2", [2, 3, 1]]],
    "known.is_known": [["s2"]],
    "known.least_rows": [["s2"], ["i"], ["(q s)"]],
    "known.known_count": [["s2", 5]],
    "rules.sort_by_rule": [["s", [2, 1]], ["s", [2, 3, 1]], ["[q q]", [2, 1, 3]], ["q", []]],
    "simple.blocks": [[[2, 3, 1]], [[]]],
    "simple.is_simple": [[[2, 4, 1, 3]]],
    "simple.decomposition": [[[2, 3, 1]], [[2, 4, 1, 3]], [[1]], [[2, 1, 3, 5, 4]]],
    "simple.inflation": [[[2, 1], [[1, 2], [1]]], [[1], [[2, 1]]], [[1], [[1]]], [[], []]],
    "simple.simple_rows": [[4]],
    "trees.tree_of": [[[2, 5, 6, 1, 4, 3]]],
    "trees.row_of_tree": [["(+ 1 1 1)"], ["1"]],
    "mend.is_plan": [["shift", [IN, IN, OUT, OUT]]],
    "mend.is_stuck": [["shift", FIVE]],
    "mend.mended": [["shift", [IN, IN, OUT, OUT], 2]],
    "certificates.is_way": [["s", [2, 1], [IN, IN, OUT, OUT]]],
    "certificates.is_closed_list": [["s", [2, 3, 1], FIVE]],
    "certificates.is_least_row": [["s", [2, 3, 1], FIVE, WAYS]],
    "certificates.is_occurrence": [[[3, 1, 4, 2], [2, 3, 1], [0, 2, 3]]],
    "certificates.is_relation": [[GOLDEN, THREE, [(0, 0), (1, 0)]]],
    "words.words_of": [["show a"], ["yard a s"]],
    "words.is_name": [["a"]],
    "words.number_in": [["12"]],
    "journal.attempt": [["journal", ["row r 2 1", "show r"]], ["journal", []]],
    "journal.resume": [["> row r 2 1\n< ok\n"]],
}
# A generator is looked at as a list of all that it yields.
GENERATORS = {"rows.all_rows": [[3], [0]]}


def lists_in(thing):
    """All lists within a value, an object's attributes included."""
    if isinstance(thing, list):
        return [thing] + [found for part in thing for found in lists_in(part)]
    if isinstance(thing, tuple):
        return [found for part in thing for found in lists_in(part)]
    if isinstance(thing, dict):
        return lists_in(list(thing.values()))
    return lists_in(list(vars(thing).values())) if hasattr(thing, "__dict__") else []


def image(thing):
    """A value that shows each change of a thing."""
    if isinstance(thing, (list, tuple)):
        return [image(part) for part in thing]
    if isinstance(thing, dict):
        return {key: image(part) for key, part in thing.items()}
    return image(vars(thing)) if hasattr(thing, "__dict__") else thing


def prepared(arguments):
    made = {"shift": lambda: Shift("s", [2, 1]), "journal": Journal}
    return [made[some]() if isinstance(some, str) and some in made else copy.deepcopy(some) for some in arguments]


class ArgumentsTest(unittest.TestCase):
    def test_each_function_is_called(self):
        names = {f"{file}.{name}" for file, functions in FUNCTIONS.items() for name in functions}
        self.assertEqual(names, {*CALLS, *GENERATORS})

    def test_functions(self):
        for name, calls in {**CALLS, **GENERATORS}.items():
            file, word = name.split(".")
            function = getattr(importlib.import_module(f"yardsort.{file}"), word)
            for arguments in calls:
                given = prepared(arguments)
                before = image(given)
                results = [function(*given), function(*given)]
                if name in GENERATORS:
                    results = [list(result) for result in results]
                self.assertEqual(image(given), before, name)
                self.assertEqual(image(results[0]), image(results[1]), name)
                every = lists_in(results[0]) + lists_in(results[1]) + lists_in(given)
                marks = [id(found) for found in every]
                self.assertEqual(len(set(marks)), len(set(map(id, lists_in(given)))) + len(lists_in(results)) - 1, name)

    def test_objects(self):
        shift, language = Shift("s", [2, 3, 1]), Language("s2")
        desk = Desk()
        desk.answers(["row r 2 1", "row e", "machine m s"])
        journal = Journal()
        journal.answer("row r 2 1")
        yard = Yard("(s2 d)")
        calls = [(shift, "row", []), (shift, "situation", []), (shift, "stuck", []), (Shift("s", [2, 1]), "plan", []),
                 (language, "set_of", [[1]]), (language, "takes", [[2, 1]]), (language, "machine", []), (desk, "names", []),
                 (desk, "thing", ["r"]), (desk, "thing", ["e"]), (journal, "lines", []), (yard, "ins", [1]), (yard, "outs", [1]),
                 (desk, "answers", [["show r", "code r"]])]
        for thing, word, given in calls:
            before = image([thing, given])
            results = [getattr(thing, word)(*given) for _ in range(2)]
            self.assertEqual(image([thing, given]), before, word)
            self.assertEqual(results[0], results[1])
            marks = [id(found) for found in lists_in(results)[1:] + lists_in(given) + lists_in(vars(thing))]
            self.assertEqual(len(marks), len(set(marks)), word)


if __name__ == "__main__":
    unittest.main()
