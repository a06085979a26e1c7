import ast
import random
import unittest
from itertools import product
from pathlib import Path

from oracles import (accepted, all_occurrences, circle, fault_of, first_way, is_live, live_situations, moved, pattern_of,
                     possible, random_machine, removed, rows_up_to, rows_with, words_up_to)
from yardsort import certificates
from yardsort.certificates import is_closed_list, is_least_row, is_occurrence, is_relation, is_way
from yardsort.errors import NotMachine, NotRow, NotYard
from yardsort.yards import Yard

HUGE = 10 ** 5000
IN = (-1, 0, 0, 1)
OUT = (0, 1, -1, 0)
ALL_ONES = (1, (True,), ((0,),))
ALL_ONES_OF_TWO = (2, (True,), ((0, 0),))
NOTHING = (1, (), ())
YARDS = ("s", "s1", "s2", "q", "d", "i", "o2", "(s q)", "[s1 q]", "(i o1)", "[q2 q1]", "(s1 [q d1])", "([s1 s1] i)", "[(s1 q) o]")
TEXTS = ("", "s", "(s)", "s7", "(s  q)", "(s q", "(s q)", "[s q)", "s0", "q9", "ss", "S", " s", "s ", "()", "[]", "(s q))", "x",
         "((((((((s q) s) s) s) s) s) s) s)", "(((((((((s q)", "[s s s s s s s s]", "[s s s s s s s s s]", "(s2 [q i3] o)",
         "[s s s s s s s (", "(s\nq)", "s%", "s\xe4", "s11", "( s q)", "(s q )", "[s1q]", "[s (q i] o)", "1", "-", "(s,q)")
NOT_ROWS = ([0], [2], [1, 1], [1, 3], [-1], [HUGE], list(range(1, 62)))
NOT_MACHINES = ((0, (), ()), (7, (), ()), (-1, (), ()), (HUGE, (), ()), (1, (True,), ()), (1, (), ((0,),)),
                (2, (True,), ((0,),)), (1, (True,), ((0, 0),)), (1, (True,), ((1,),)), (1, (True,), ((-2,),)),
                (1, (True, True), ((0,), (HUGE,))), circle(2001))
FIVE = [(0, ((),), ()), (1, ((2,),), ()), (2, ((2, 3),), ()), (3, ((2, 3),), (1,)), (3, ((2, 3, 1),), ())]


def slow_is_way(text, row, moves):
    """Whether moves sort a row, each of them looked for among all tuples."""
    yard = Yard(text)
    situation = (0, ((),) * len(yard.kinds), ())
    for move in moves:
        if move not in possible(yard.kinds, yard.bounds, yard.links, row, situation):
            return False
        situation = moved(row, situation, move)
    return list(situation[2]) == list(range(1, len(row) + 1))


def slow_is_closed_list(text, row, situations):
    """Whether a list is closed, condition by condition as the document names them."""
    yard = Yard(text)

    def is_situation(came, held, gone):
        inside = [wagon for track in held for wagon in track]
        return (0 <= came <= len(row) and len(held) == len(yard.kinds)
                and sorted(inside + list(gone)) == sorted(row[:max(came, 0)])
                and all(bound is None or len(track) <= bound for bound, track in zip(yard.bounds, held)))

    if not all(is_situation(*entry) for entry in situations) or not all(is_live(entry) for entry in situations):
        return False
    if any(len(entry[2]) == len(row) for entry in situations) or (0, ((),) * len(yard.kinds), ()) not in situations:
        return False
    behind = [moved(row, entry, move) for entry in situations
              for move in possible(yard.kinds, yard.bounds, yard.links, row, entry)]
    return all(entry in situations or not is_live(entry) for entry in behind)


def slow_is_relation(one, other, pairs):
    """Whether pairs are a relation, condition by condition."""
    states = all(0 <= p < len(one[1]) and 0 <= q < len(other[1]) for p, q in pairs)
    if not states or (len(one[1]) > 0 and (0, 0) not in pairs):
        return False
    if any(one[1][p] and not other[1][q] for p, q in pairs):
        return False
    for p, q in pairs:
        for letter in range(1, one[0] + 1):
            r = one[2][p][letter - 1]
            if r != -1 and (letter > other[0] or (r, other[2][q][letter - 1]) not in pairs):
                return False
    return True


def changed(entries, pool, source):
    """A list with an entry left out, doubled, put in or changed, or in another order."""
    at = source.randrange(len(entries) + 1)
    more = [source.choice(pool + entries)] if pool + entries else []
    return source.choice([entries[:at] + entries[at + 1:], entries[:at] + entries[at:at + 1] + entries[at:],
                          entries[:at] + more + entries[at:], entries[:at] + more + entries[at + 1:],
                          source.sample(entries, len(entries)), entries + more])


class ModuleTest(unittest.TestCase):
    def test_it_imports_the_errors_alone(self):
        tree = ast.parse(Path(certificates.__file__).read_text(encoding="ascii"))
        imports = [node for node in ast.walk(tree) if isinstance(node, (ast.Import, ast.ImportFrom))]
        self.assertEqual([node.module for node in imports], ["yardsort.errors"])


class ErrorsTest(unittest.TestCase):
    def functions(self):
        return ((is_way, ([],)), (is_closed_list, ([],)), (is_least_row, ([], [])))

    def test_texts(self):
        source = random.Random(1)
        texts = list(TEXTS)
        for _ in range(3000):
            text = list(source.choice(("(s2 [q i3] o)", "[(s q) (i o)]", "((s s) [s s s] (s s))", "[s s s s s s s s]", "d6")))
            for _ in range(source.randint(0, 3)):
                at = source.randrange(len(text) + 1)
                text[at:at + source.randrange(2)] = source.choice("sqdio162 ()[]7x")
            texts.append("".join(text))
        for _ in range(3000):
            texts.append("".join(source.choice("sq2 ()[]") for _ in range(source.randrange(12))))
        for text in texts:
            for function, rest in self.functions():
                if fault_of(text) is None:
                    self.assertIs(function(text, [1], *rest), False, text)
                    continue
                with self.assertRaises(NotYard) as raised:
                    function(text, [1], *rest)
                self.assertEqual(raised.exception.at, fault_of(text), text)

    def test_links(self):
        """One wagon goes along some devices exactly if there is a link from each to the next."""
        self.assertTrue(is_way("(s2 q)", [1], [IN, (0, 1, 1, 1), (1, 0, -1, 0)]))
        for text in ("s", "[s s]", "(s2 s)", "(s [s s2] s3)", "([s s] [s s])", "[(s s) (s s)]", "((s s) [s (s s)])",
                     "([(s s) s] s)", "[[s s] [(s s) s]]", "(((s s) s) s)", "(s (s [s s]))", "([s s] [(s s) s])"):
            yard = Yard(text)
            devices = range(len(yard.kinds))
            for length in range(5):
                for path in product(devices, repeat=length):
                    links = list(zip((-1,) + path, path + (-1,)))
                    moves = [(one, 0 if one == -1 else 1, other, 0 if other == -1 else 1) for one, other in links]
                    self.assertEqual(is_way(text, [1], moves), all(link in yard.links for link in links), (text, path))

    def test_rows(self):
        for row in NOT_ROWS:
            for function, rest in self.functions():
                with self.assertRaises(NotRow):
                    function("s", row, *rest)
            with self.assertRaises(NotRow):
                is_occurrence(row, [1], [0])
            with self.assertRaises(NotRow):
                is_occurrence([1], row, [0])

    def test_the_yard_comes_before_the_row(self):
        for text in ("", "(s)", "s7", "(s q"):
            for row in NOT_ROWS + ([1],):
                for function, rest in self.functions():
                    with self.assertRaises(NotYard) as raised:
                        function(text, row, *rest)
                    self.assertEqual(raised.exception.at, fault_of(text))

    def test_errors_come_before_everything_else_that_is_wrong(self):
        for row in NOT_ROWS:
            for function, rest in ((is_way, ([OUT],)), (is_closed_list, ([(7, (), ())],)), (is_least_row, ([], [[OUT], [IN]]))):
                with self.assertRaises(NotRow):
                    function("s", row, *rest)
            with self.assertRaises(NotRow):
                is_occurrence([2, 1], row, [5, 5, -1])
            with self.assertRaises(NotRow):
                is_occurrence(row, row, [])

    def test_machines(self):
        for machine in NOT_MACHINES:
            for pairs in ([], [(0, 0)], [(5, -1)]):
                for other in (ALL_ONES, NOTHING, NOT_MACHINES[0]):
                    with self.assertRaises(NotMachine):
                        is_relation(machine, other, pairs)
                    with self.assertRaises(NotMachine):
                        is_relation(other, machine, pairs)

    def test_machines_at_the_limits(self):
        large = circle(2000)
        self.assertTrue(is_relation(large, large, [(state, state) for state in range(2000)]))
        six = (6, (True,), ((0,) * 6,))
        self.assertTrue(is_relation(six, six, [(0, 0)]))
        self.assertTrue(is_way("s", list(range(1, 61)), [IN, OUT] * 60))


class WayTest(unittest.TestCase):
    def test_examples(self):
        self.assertTrue(is_way("s", [2, 1], [IN, IN, OUT, OUT]))
        self.assertFalse(is_way("s", [2, 1], [IN, IN, OUT]))
        self.assertFalse(is_way("s1", [2, 1], [IN, IN, OUT, OUT]))

    def test_no_wagons(self):
        for text in YARDS:
            self.assertTrue(is_way(text, [], []))
            self.assertFalse(is_way(text, [], [IN]))
            self.assertFalse(is_way(text, [1], []))

    def test_wrong_moves(self):
        for move in (OUT, (-1, 0, 0, 0), (-1, 1, 0, 1), (-1, 0, -1, 0), (-1, 0, 1, 1), (0, 1, 0, 1), (HUGE, 0, 0, 1), (-2, 0, 0, 1),
                     (-1, 0, 0, -1), (-1, 0, -2, 0), (-1, -1, 0, 1), (-1, 0, 0, HUGE)):
            self.assertFalse(is_way("s", [1], [move, OUT]), move)
        for move in (IN, (0, 0, -1, 0), (0, 1, -1, 1), (0, 1, 0, 1), (0, -1, -1, 0), (-1, 1, -1, 0), (1, 1, -1, 0), (0, HUGE, -1, 0)):
            self.assertFalse(is_way("s", [1], [IN, move]), move)
        self.assertFalse(is_way("s", [1], [IN, OUT, OUT]))
        self.assertFalse(is_way("s", [1], [IN, OUT, IN]))
        self.assertFalse(is_way("q", [2, 1], [IN, IN, (0, 0, -1, 0), (0, 0, -1, 0)]))

    def test_ends(self):
        for kind in "sqdio":
            ends_in = {"s": (1,), "q": (1,), "d": (0, 1), "i": (1,), "o": (0, 1)}[kind]
            ends_out = {"s": (1,), "q": (0,), "d": (0, 1), "i": (0, 1), "o": (1,)}[kind]
            for start in (-1, 0, 1, 2):
                for end in (-1, 0, 1, 2):
                    moves = [(-1, 0, 0, start), (0, end, -1, 0)]
                    self.assertEqual(is_way(kind, [1], moves), start in ends_in and end in ends_out)
            for order in ([1, 2], [2, 1]):
                for first, second, out, last in [(a, b, c, e) for a in (0, 1) for b in (0, 1) for c in (0, 1) for e in (0, 1)]:
                    moves = [(-1, 0, 0, first), (-1, 0, 0, second), (0, out, -1, 0), (0, last, -1, 0)]
                    self.assertEqual(is_way(kind, order, moves), slow_is_way(kind, order, moves), (kind, order, moves))

    def test_bounds(self):
        for bound in range(1, 7):
            row = list(range(bound + 1, 0, -1))
            moves = [IN] * (bound + 1) + [OUT] * (bound + 1)
            self.assertFalse(is_way(f"s{bound}", row, moves))
            self.assertTrue(is_way(f"s{bound}", row[1:], moves[1:-1]))
            self.assertTrue(is_way("s", row, moves))

    def test_small_cases(self):
        source = random.Random(2)
        found = {True: 0, False: 0}
        for text in YARDS:
            yard = Yard(text)
            for row in rows_up_to(3) + rows_with(4)[::5]:
                way = first_way(yard, row)
                if way is None:
                    continue
                self.assertTrue(is_way(text, row, way))
                for _ in range(6):
                    moves = changed(way, [IN, OUT, (0, 1, 1, 1), (1, 0, -1, 0), (-1, 0, 1, 1), (0, 0, 1, 1)], source)
                    copy = list(moves)
                    answer = is_way(text, row, moves)
                    found[answer] += 1
                    self.assertEqual(answer, slow_is_way(text, row, moves))
                    self.assertEqual(moves, copy)
                    self.assertFalse(answer and len(moves) < len(way))
        self.assertGreater(min(found.values()), 20)


class ClosedListTest(unittest.TestCase):
    def test_ordinary(self):
        self.assertTrue(is_closed_list("s", [2, 3, 1], FIVE))
        self.assertTrue(is_closed_list("s", [2, 3, 1], FIVE[::-1]))
        self.assertTrue(is_closed_list("s", [2, 3, 1], FIVE + FIVE[1:3]))
        self.assertFalse(is_closed_list("s", [3, 2, 1], FIVE))
        self.assertFalse(is_closed_list("q", [2, 3, 1], FIVE))

    def test_the_empty_list(self):
        for text in YARDS:
            for row in rows_up_to(3):
                self.assertFalse(is_closed_list(text, row, []))

    def test_the_empty_row(self):
        self.assertFalse(is_closed_list("s", [], [(0, ((),), ())]))

    def test_each_situation_is_needed(self):
        for at in range(len(FIVE)):
            self.assertFalse(is_closed_list("s", [2, 3, 1], FIVE[:at] + FIVE[at + 1:]))

    def test_entries_that_do_not_belong_there(self):
        wrong = ((4, ((2, 3, 1),), ()), (-1, ((),), ()), (HUGE, ((),), ()), (0, (), ()), (0, ((), ()), ()), (1, ((3,),), ()),
                 (1, ((2, 2),), ()), (1, ((2,),), (2,)), (2, ((2,),), (3,)), (3, ((3,),), (2, 1)), (3, ((),), (1, 2, 3)),
                 (0, ((-HUGE,),), ()), (1, ((),), (2,)), (3, ((3, 2),), (1,)), (3, ((2,),), (1, 3)), (-3, ((2, 3, 1),), ()),
                 (2, ((2, 3, 1),), ()), (3, ((2, 3),), ()), (0, ((),), (1,)), (-2, ((2,),), ()))
        for situation in wrong:
            for at in (0, 2, 5):
                situations = FIVE[:at] + [situation] + FIVE[at:]
                self.assertFalse(is_closed_list("s", [2, 3, 1], situations), situation)

    def test_above_a_bound(self):
        row = [3, 2, 1]
        listed = live_situations(Yard("s2"), row)
        self.assertTrue(is_closed_list("s2", row, listed))
        self.assertFalse(is_closed_list("s2", row, listed + [(3, ((3, 2, 1),), ())]))
        # From these, no move leads on: only what is in them is wrong.
        row = [2, 3, 4, 1]
        listed = live_situations(Yard("s2"), row)
        for wrong in ((3, ((2, 3, 4),), ()), (-2, ((2, 3),), ()), (-1, ((2, 3, 4),), ()), (2, ((2, 4),), ())):
            self.assertFalse(is_closed_list("s2", row, listed + [wrong]))
        listed = live_situations(Yard("s2"), [2, 3, 1])
        self.assertTrue(is_closed_list("s2", [2, 3, 1], listed))
        self.assertFalse(is_closed_list("s2", [2, 3, 1], listed + [(-1, ((2, 3),), ())]))

    def test_more_situations_than_the_search_meets(self):
        # In the other order, 3 2 cannot be left either: all that follows is in the list.
        more = [(2, ((3, 2),), ()), (3, ((3, 2, 1),), ())]
        self.assertFalse(is_closed_list("s", [2, 3, 1], FIVE + more))
        row = [2, 3, 4, 1]
        listed = live_situations(Yard("(q s)"), row)
        unreached = (4, ((), (3, 2, 4, 1)), ())
        self.assertNotIn(unreached, listed)
        self.assertFalse(is_closed_list("(q s)", row, listed + [unreached]))
        self.assertTrue(is_closed_list("(q s)", row, listed + [unreached, (4, ((), (3, 2, 4)), (1,))]))

    def test_small_cases(self):
        source = random.Random(3)
        found = {True: 0, False: 0}
        for text in YARDS:
            yard = Yard(text)
            for row in rows_up_to(3) + rows_with(4)[::7]:
                listed = live_situations(yard, row)
                self.assertEqual(is_closed_list(text, row, listed), first_way(yard, row) is None)
                for _ in range(6):
                    pool = [(0, ((),) * len(yard.kinds), ()), (1, ((1,),) + ((),) * (len(yard.kinds) - 1), ())]
                    situations = changed(listed, pool, source)
                    copy = list(situations)
                    answer = is_closed_list(text, row, situations)
                    found[answer] += 1
                    self.assertEqual(answer, slow_is_closed_list(text, row, situations))
                    self.assertEqual(situations, copy)
        self.assertGreater(min(found.values()), 50)

    def test_a_closed_list_and_a_way_exclude_each_other(self):
        for text in YARDS:
            yard = Yard(text)
            for row in rows_up_to(3) + rows_with(4)[::3]:
                way = first_way(yard, row)
                listed = live_situations(yard, row)
                self.assertNotEqual(way is not None and is_way(text, row, way), is_closed_list(text, row, listed))
                for start in range(len(listed)):
                    if way is not None:
                        self.assertFalse(is_closed_list(text, row, listed[start:]))


class LeastRowTest(unittest.TestCase):
    WAYS = [[IN, OUT, IN, OUT], [IN, IN, OUT, OUT], [IN, IN, OUT, OUT]]

    def test_ordinary(self):
        self.assertTrue(is_least_row("s", [2, 3, 1], FIVE, self.WAYS))
        self.assertTrue(is_least_row("s", [2, 3, 1], FIVE, [[IN, OUT, IN, OUT], *self.WAYS[1:]]))

    def test_ways(self):
        first, second, third = self.WAYS
        for ways in ([], [first], [first, second], [first, second, third, third], [second, first, third], [third, second, first],
                     [first, second, []], [[], [], []], [first, second, third[:-1]], [[IN, IN, OUT, OUT], second, third],
                     [first, second, third + [OUT]], [first, [OUT], third], [first, second, [(0, 0, 0, 0)] * 4]):
            self.assertFalse(is_least_row("s", [2, 3, 1], FIVE, ways), ways)

    def test_closed_lists(self):
        for situations in ([], FIVE[1:], FIVE + [(7, (), ())]):
            self.assertFalse(is_least_row("s", [2, 3, 1], situations, self.WAYS))
        self.assertTrue(is_least_row("s", [2, 3, 1], FIVE[::-1] + FIVE, self.WAYS))

    def test_each_wagon_is_taken_out_of_the_row_in_its_turn(self):
        # Without 1, 2, 3, 4 the row is 3 2 1, 3 2 1, 3 2 1 and 2 3 1.
        yard, row = Yard("i"), [3, 2, 4, 1]
        ways = [first_way(yard, removed(row, wagon)) for wagon in (1, 2, 3, 4)]
        self.assertNotIn(None, ways)
        listed = live_situations(yard, row)
        self.assertTrue(is_least_row("i", row, listed, ways))
        for at in range(4):
            for other in range(at):
                swapped = list(ways)
                swapped[at], swapped[other] = ways[other], ways[at]
                self.assertEqual(is_least_row("i", row, listed, swapped),
                                 slow_is_way("i", removed(row, at + 1), swapped[at])
                                 and slow_is_way("i", removed(row, other + 1), swapped[other]))

    def test_rows_that_are_not_least(self):
        self.assertFalse(is_least_row("s", [2, 1], [], [[IN, OUT], [IN, OUT]]))
        self.assertFalse(is_least_row("s", [], [], []))
        self.assertFalse(is_least_row("s", [], [(0, ((),), ())], []))
        row = [2, 3, 1, 4]
        listed = live_situations(Yard("s"), row)
        self.assertTrue(is_closed_list("s", row, listed))
        ways = [first_way(Yard("s"), removed(row, wagon)) for wagon in range(1, 5)]
        self.assertIsNone(ways.pop())
        self.assertFalse(is_least_row("s", row, listed, ways))
        self.assertFalse(is_least_row("s", row, listed, ways + [[IN, IN, OUT, OUT, IN, OUT]]))

    def test_small_cases(self):
        source = random.Random(4)
        found = {True: 0, False: 0}
        for text in YARDS:
            yard = Yard(text)
            for row in rows_up_to(3) + rows_with(4)[::3]:
                listed = live_situations(yard, row)
                ways = [first_way(yard, removed(row, wagon)) for wagon in range(1, len(row) + 1)]
                filled = [[] if way is None else way for way in ways]
                least = first_way(yard, row) is None and None not in ways
                self.assertEqual(is_least_row(text, row, listed, filled), least)
                for _ in range(5 if least else 1):
                    others = changed(filled, [[IN, OUT]], source)
                    answer = is_least_row(text, row, listed, others)
                    found[answer] += 1
                    slow = (slow_is_closed_list(text, row, listed) and len(others) == len(row)
                            and all(slow_is_way(text, removed(row, at + 1), way) for at, way in enumerate(others)))
                    self.assertEqual(answer, slow)
        self.assertGreater(min(found.values()), 15)


class OccurrenceTest(unittest.TestCase):
    def test_examples(self):
        self.assertTrue(is_occurrence([3, 1, 4, 2], [2, 3, 1], [0, 2, 3]))
        self.assertFalse(is_occurrence([3, 1, 4, 2], [2, 3, 1], [0, 1, 2]))

    def test_wrong_places(self):
        row, pattern = [3, 1, 4, 2], [2, 3, 1]
        for places in ([], [0, 2], [0, 2, 3, 3], [0, 2, 3, 4], [2, 0, 3], [3, 2, 0], [0, 0, 3], [0, 3, 3], [0, 2, 4], [-4, 2, 3],
                       [0, 2, -1], [0, -2, -1], [-4, -2, -1], [0, 2, HUGE], [-HUGE, 2, 3], [4, 5, 6]):
            self.assertFalse(is_occurrence(row, pattern, places), places)

    def test_the_empty_pattern(self):
        for row in rows_up_to(3):
            self.assertTrue(is_occurrence(row, [], []))
            self.assertFalse(is_occurrence(row, [], [0]))
        self.assertFalse(is_occurrence([], [1], []))
        self.assertFalse(is_occurrence([], [1], [0]))

    def test_patterns_of_any_size(self):
        row = list(range(60, 0, -1))
        self.assertTrue(is_occurrence(row, row, list(range(60))))
        self.assertTrue(is_occurrence(row, list(range(30, 0, -1)), list(range(0, 60, 2))))
        self.assertFalse(is_occurrence(row, list(range(1, 31)), list(range(0, 60, 2))))
        self.assertFalse(is_occurrence([1], [2, 1], [0, 1]))

    def test_small_cases(self):
        source = random.Random(5)
        for row in rows_up_to(4):
            for pattern in rows_up_to(3):
                found = all_occurrences(row, pattern)
                for places in found:
                    self.assertTrue(is_occurrence(row, pattern, places))
                for _ in range(5):
                    places = [source.randint(-1, len(row)) for _ in pattern]
                    self.assertEqual(is_occurrence(row, pattern, places), places in found)
        row = [3, 5, 1, 4, 2]
        for places in ([0, 1, 3], [1, 2, 4]):
            self.assertTrue(is_occurrence(row, pattern_of([row[place] for place in places]), places))


class RelationTest(unittest.TestCase):
    def test_examples(self):
        self.assertTrue(is_relation(ALL_ONES, ALL_ONES, [(0, 0)]))
        self.assertTrue(is_relation(ALL_ONES, ALL_ONES_OF_TWO, [(0, 0)]))
        self.assertFalse(is_relation(ALL_ONES_OF_TWO, ALL_ONES, [(0, 0)]))
        for letters in range(1, 7):
            for other in (NOTHING, ALL_ONES, ALL_ONES_OF_TWO):
                self.assertTrue(is_relation((letters, (), ()), other, []))

    def test_the_first_pair(self):
        self.assertFalse(is_relation(ALL_ONES, ALL_ONES, []))
        two = (1, (True, True), ((1,), (1,)))
        self.assertFalse(is_relation(two, ALL_ONES, [(1, 0)]))
        self.assertTrue(is_relation(two, ALL_ONES, [(1, 0), (0, 0)]))
        self.assertTrue(is_relation(two, ALL_ONES, [(0, 0), (1, 0), (0, 0)]))

    def test_numbers_that_are_not_states(self):
        for pair in ((1, 0), (0, 1), (-1, 0), (0, -1), (-1, -1), (HUGE, 0), (0, -HUGE)):
            self.assertFalse(is_relation(ALL_ONES, ALL_ONES, [(0, 0), pair]), pair)
            self.assertFalse(is_relation(ALL_ONES, ALL_ONES, [pair, (0, 0)]), pair)
            self.assertFalse(is_relation(NOTHING, ALL_ONES, [pair]), pair)
            self.assertFalse(is_relation(ALL_ONES, NOTHING, [pair]), pair)
        self.assertFalse(is_relation(NOTHING, ALL_ONES, [(0, 0)]))
        self.assertFalse(is_relation(ALL_ONES, NOTHING, [(0, 0)]))
        self.assertFalse(is_relation(ALL_ONES, NOTHING, []))
        # From the state 0 the second machine goes nowhere, which is not a state.
        ended = (1, (True,), ((-1,),))
        self.assertFalse(is_relation(ALL_ONES, ended, [(0, 0), (0, -1)]))
        self.assertTrue(is_relation(ended, ALL_ONES, [(0, 0)]))

    def test_accepting_states(self):
        one = (1, (False, True), ((1,), (-1,)))
        other = (1, (True, False), ((1,), (-1,)))
        self.assertFalse(is_relation(one, other, [(0, 0), (1, 1)]))
        self.assertTrue(is_relation(one, (1, (True, True), ((1,), (-1,))), [(0, 0), (1, 1)]))
        self.assertFalse(is_relation((1, (True, True), ((1,), (-1,))), one, [(0, 0), (1, 1)]))

    def test_a_relation_may_hold_more(self):
        other = (2, (True, True), ((1, 1), (0, -1)))
        self.assertTrue(is_relation(ALL_ONES, other, [(0, 1), (0, 0)]))
        self.assertFalse(is_relation(ALL_ONES, other, [(0, 0)]))

    def test_other_letters(self):
        six = (6, (True, False), ((0, -1, -1, -1, -1, -1), (0, 0, 0, 0, 0, 0)))
        self.assertTrue(is_relation(six, ALL_ONES, [(0, 0)]))
        self.assertFalse(is_relation(six, ALL_ONES, [(0, 0), (1, 0)]))
        self.assertTrue(is_relation(ALL_ONES, six, [(0, 0)]))

    def test_small_cases(self):
        source = random.Random(6)
        found = {True: 0, False: 0}
        for _ in range(3000):
            one = random_machine(source, source.randint(1, 3), source.randint(0, 3))
            other = random_machine(source, source.randint(1, 3), source.randint(0, 3))
            if source.random() < 0.5:
                other = (other[0], tuple(True for _ in other[1]), tuple(tuple(max(0, to) for to in row) for row in other[2]))
            pairs = [(p, q) for p in range(len(one[1])) for q in range(len(other[1])) if source.random() < 0.7]
            if source.random() < 0.1:
                pairs.append((source.randint(-1, 3), source.randint(-1, 3)))
            copy = list(pairs)
            answer = is_relation(one, other, pairs)
            found[answer] += 1
            self.assertEqual(answer, slow_is_relation(one, other, pairs))
            self.assertEqual(pairs, copy)
            if answer:
                for word in words_up_to(3, 4):
                    self.assertTrue(not accepted(one, word) or accepted(other, word))
        self.assertGreater(min(found.values()), 200)


if __name__ == "__main__":
    unittest.main()
