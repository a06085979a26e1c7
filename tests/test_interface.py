"""The names, the arguments and the files of the interface."""

import importlib
import inspect
import unittest

from yardsort import errors

FUNCTIONS = {
    "rows": {"is_row": "numbers", "row_text": "row", "read_row": "text", "code_of": "row", "row_of": "code",
             "inverse": "row", "reverse_of": "row", "complement": "row", "direct_sum": "one other",
             "skew_sum": "one other", "without": "row wagon", "comes_before": "one other", "all_rows": "count"},
    "patterns": {"pattern_at": "row places", "first_occurrence": "row pattern", "contains": "row pattern",
                 "occurrences": "row pattern", "patterns_of": "row size", "first_contained": "row patterns"},
    "yards": {"turned": "text", "turned_numbers": "text"},
    "moves": {"first_situation": "yard row", "check_situation": "yard row situation",
              "moves_of": "yard row situation", "made": "yard row situation move"},
    "replay": {"replay": "yard row moves", "sorts": "yard row moves", "taken": "yard row moves",
               "without_wagon": "yard row moves wagon", "turned_moves": "yard moves", "turned_row": "row"},
    "search": {"is_live": "situation", "solve": "yard row", "fewest": "yard row", "can_sort": "yard row",
               "sorted_rows": "yard size"},
    "closed": {"closed_list": "yard row", "is_closed": "yard row situations", "first_gap": "yard row situations"},
    "machines": {"is_machine": "machine", "check_machine": "machine", "accepts": "machine word", "least": "machine",
                 "same_words": "one other"},
    "products": {"complement": "machine", "union": "one other", "intersection": "one other",
                 "difference": "one other", "widen": "machine letters", "includes": "one other"},
    "wordlists": {"shortest": "machine", "words_of_length": "machine length", "is_finite": "machine", "pump": "machine",
                  "machine_text": "machine", "read_machine": "text"},
    "shapes": {"capacity": "yard", "empty_shape": "yard", "silent": "yard shape", "spoken": "yard shape letter",
               "closed_set": "yard shapes"},
    "language": {"machine_of": "text", "sorts_by_code": "text row"},
    "compare": {"compare": "one other", "difference": "one other", "pairing": "one other",
                "is_pairing": "one other pairs", "classes_of": "yards"},
    "deleted": {"lost": "machine", "is_one_too_many": "machine row"},
    "basis": {"basis_machine": "yard", "in_basis": "yard row", "basis_rows": "yard count", "whole_basis": "yard",
              "family": "yard", "core": "yard row"},
    "polynomials": {"is_polynomial": "numbers", "add": "one other", "multiply": "one other",
                    "greatest_common": "one other", "divided": "one other"},
    "series": {"counts": "machine n", "total": "machine", "series": "machine", "expand": "fraction n",
               "is_reduced": "fraction"},
    "growth": {"growth": "machine places", "kind": "machine"},
    "rank": {"count_words": "machine length", "number_of_word": "machine word", "word_with_number": "machine length number",
             "word_behind": "machine word", "count_rows": "yard count", "place_of_row": "yard row",
             "row_with_number": "yard count number", "row_behind": "yard row"},
    "known": {"is_known": "text", "least_rows": "text", "known_count": "text wagons"},
    "rules": {"sort_by_rule": "text row"},
    "simple": {"blocks": "row", "is_simple": "row", "decomposition": "row", "inflation": "pattern parts",
               "simple_rows": "count"},
    "trees": {"tree_of": "row", "row_of_tree": "text"},
    "mend": {"is_plan": "shift moves", "is_stuck": "shift situations", "mended": "shift moves wagon"},
    "certificates": {"is_way": "text row moves", "is_closed_list": "text row situations",
                     "is_least_row": "text row situations ways", "is_occurrence": "row pattern places",
                     "is_relation": "one other pairs"},
    "words": {"words_of": "line", "is_name": "word", "number_in": "word"},
    "journal": {"attempt": "journal lines keep", "resume": "text"},
}

CLASSES = {
    "yards": {"Yard": {"__init__": "self text", "__len__": "self", "ins": "self device", "outs": "self device",
                       "is_bounded": "self", "room": "self device count"}},
    "machines": {"Walker": {"__init__": "self machine", "read": "self letter"}},
    "language": {"Language": {"__init__": "self text", "machine": "self", "takes": "self word", "set_of": "self word"}},
    "rules": {"Shown": {}},
    "plan": {"Shift": {"__init__": "self text row", "__len__": "self", "__iter__": "self", "move": "self move",
                       "breaks": "self wagon", "is_late": "self wagon", "row": "self", "situation": "self", "plan": "self",
                       "stuck": "self"}},
    "desk": {"Desk": {"answer": "self line", "answers": "self lines", "names": "self", "thing": "self name"}},
    "journal": {"Journal": {"answer": "self line", "record": "self", "lines": "self", "keep": "self", "__enter__": "self",
                            "__exit__": "self kind value trace"}},
}

ERRORS = ("YardsortError", "NotRow", "NotCode", "NotPattern", "BadNumber", "TooLarge", "Unbounded", "NotSituation",
          "NotKnown", "NotMachine", "NotWord", "NoRow", "NoWord", "OtherLetters", "NotPolynomial", "NotFraction",
          "NotTree", "OpenTrial", "NotYard", "BadMove", "Malformed", "BadJournal")


def names_of(function):
    return " ".join(inspect.signature(function).parameters)


class InterfaceTest(unittest.TestCase):
    def test_functions(self):
        for file, functions in FUNCTIONS.items():
            module = importlib.import_module(f"yardsort.{file}")
            for name, arguments in functions.items():
                function = getattr(module, name)
                self.assertTrue(inspect.isfunction(function), name)
                self.assertEqual(function.__module__, module.__name__, name)
                self.assertEqual(names_of(function), arguments, name)

    def test_classes(self):
        for file, classes in CLASSES.items():
            module = importlib.import_module(f"yardsort.{file}")
            for name, methods in classes.items():
                found = getattr(module, name)
                self.assertEqual(found.__module__, module.__name__, name)
                for method, arguments in methods.items():
                    self.assertEqual(names_of(found.__dict__[method]), arguments, method)

    def test_keep_is_passed_by_its_name(self):
        keep = inspect.signature(importlib.import_module("yardsort.journal").attempt).parameters["keep"]
        self.assertEqual((keep.kind, keep.default), (keep.KEYWORD_ONLY, False))

    def test_desks_and_journals_begin_without_arguments(self):
        self.assertEqual(importlib.import_module("yardsort.desk").Desk().names(), [])
        self.assertEqual(importlib.import_module("yardsort.journal").Journal().record(), "")

    def test_errors(self):
        for name in ERRORS:
            self.assertEqual(getattr(errors, name).__module__, "yardsort.errors")

    def test_attributes_are_set_at_the_beginning(self):
        yards = importlib.import_module("yardsort.yards")
        machines = importlib.import_module("yardsort.machines")
        self.assertLessEqual({"text", "kinds", "bounds", "links"}, set(vars(yards.Yard("(s2 q)"))))
        self.assertIn("state", vars(machines.Walker((1, (), ()))))
        language = importlib.import_module("yardsort.language")
        self.assertLessEqual({"yard", "letters"}, set(vars(language.Language("s2"))))
        plan = importlib.import_module("yardsort.plan")
        self.assertIn("yard", vars(plan.Shift("s", [2, 1])))
        self.assertIsInstance(plan.Shift.__dict__["done"], property)

    def test_kinds_of_values(self):
        yard = importlib.import_module("yardsort.yards").Yard("(s2 q)")
        self.assertTrue(all(isinstance(field, list) for field in (yard.kinds, yard.bounds, yard.links)))
        self.assertTrue(all(isinstance(link, tuple) for link in yard.links))
        moves = importlib.import_module("yardsort.moves")
        situation = moves.first_situation(yard, [1])
        self.assertTrue(all(isinstance(move, tuple) for move in moves.moves_of(yard, [1], situation)))
        there = moves.made(yard, [1], situation, (-1, 0, 0, 1))
        self.assertTrue(all(isinstance(part, tuple) for part in (there, there[1], there[1][0], there[2])))
        found = importlib.import_module("yardsort.machines").least((1, (True, True), ((1,), (0,))))
        self.assertTrue(all(isinstance(part, tuple) for part in (found, found[1], found[2], found[2][0])))


if __name__ == "__main__":
    unittest.main()
