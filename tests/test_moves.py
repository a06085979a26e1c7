import unittest

from oracles import moved, possible, rows_with
from yardsort.errors import BadMove, NotRow, NotSituation
from yardsort.moves import check_situation, first_situation, made, moves_of
from yardsort.yards import Yard

HUGE = 10 ** 5000
NOT_ROWS = ([0], [2], [1, 1], [1, 3], list(range(1, 62)))
YARDS = ("s", "q", "d", "i", "o", "s1", "d2", "(s2 q)", "[s1 q]", "(i o)", "(d1 d)", "[(s q1) o]", "(i2 [s q1] o)")


def situations_of(yard, row):
    """All situations to which moves lead."""
    waiting = [(0, ((),) * len(yard.kinds), ())]
    seen = set(waiting)
    for situation in waiting:
        for move in possible(yard.kinds, yard.bounds, yard.links, row, situation):
            there = moved(row, situation, move)
            if there not in seen:
                seen.add(there)
                waiting.append(there)
    return waiting


class FirstSituationTest(unittest.TestCase):
    def test_no_wagon_has_come(self):
        self.assertEqual(first_situation(Yard("s"), [2, 1]), (0, ((),), ()))
        self.assertEqual(first_situation(Yard("(i [s q2] o3)"), []), (0, ((), (), (), ()), ()))

    def test_60_and_61_wagons(self):
        self.assertEqual(first_situation(Yard("s"), list(range(1, 61))), (0, ((),), ()))
        with self.assertRaises(NotRow):
            first_situation(Yard("s"), list(range(1, 62)))

    def test_no_row(self):
        for numbers in NOT_ROWS:
            with self.assertRaises(NotRow):
                first_situation(Yard("s"), numbers)


class SituationTest(unittest.TestCase):
    row = [3, 1, 4, 2]

    def accept(self, text, situation):
        self.assertIsNone(check_situation(Yard(text), self.row, situation))

    def refuse(self, text, situation):
        for function in (check_situation, moves_of):
            with self.assertRaises(NotSituation):
                function(Yard(text), self.row, situation)
        for move in ((-1, 0, 0, 1), (9, 9, 9, 9)):
            with self.assertRaises(NotSituation):
                made(Yard(text), self.row, situation, move)

    def test_situations(self):
        for situation in ((0, ((),), ()), (1, ((3,),), ()), (1, ((),), (3,)), (2, ((1,),), (3,)), (2, ((3,),), (1,)),
                          (4, ((2, 4, 1, 3),), ()), (4, ((1, 2, 3, 4),), ()), (4, ((),), (3, 1, 2, 4)),
                          (4, ((),), (1, 2, 3, 4)), (3, ((4,),), (1, 3))):
            self.accept("s", situation)

    def test_two_devices(self):
        self.accept("(s2 q1)", (3, ((3, 1), (4,)), ()))
        self.accept("[s2 q1]", (4, ((), (2,)), (1, 3, 4)))
        self.refuse("(s2 q1)", (3, ((3,), (1, 4)), ()))
        self.refuse("(s2 q1)", (3, ((3, 1, 4), ()), ()))

    def test_bound_reached_and_exceeded(self):
        self.accept("s3", (3, ((3, 1, 4),), ()))
        self.refuse("s3", (4, ((3, 1, 4, 2),), ()))
        self.accept("q1", (1, ((3,),), ()))
        self.refuse("q1", (2, ((3, 1),), ()))

    def test_number_that_has_come(self):
        for came in (-1, 0, 2, 5, -4, HUGE, -HUGE):
            self.refuse("s", (came, ((3,),), ()))
        for came in (-4, -1, 1, 4, 5, HUGE, -HUGE):
            self.refuse("s", (came, ((),), ()))
        for came in (-1, 3, 5, 8):
            self.refuse("s", (came, ((3, 1, 4, 2),), ()))
        self.refuse("s", (-1, ((3, 1, 4),), ()))
        self.refuse("s", (-2, ((1,),), (3,)))

    def test_other_wagons(self):
        for held, gone in (((1,), ()), ((2,), ()), ((3, 3), ()), ((3,), (3,)), ((), (1,)), ((0,), ()), ((5,), ()),
                           ((-1,), ()), ((HUGE,), ()), ((), (-HUGE,)), ((3, 1), ()), ((), (3, 1))):
            self.refuse("s", (1, (held,), gone))
        self.refuse("s", (2, ((3,),), (3,)))
        self.refuse("s", (2, ((1,),), (1,)))
        self.refuse("s", (2, ((3, 4),), ()))
        self.refuse("s", (4, ((3, 1, 4),), (4,)))
        self.refuse("(s q)", (1, ((3,), (3,)), ()))

    def test_number_of_devices(self):
        self.refuse("s", (0, (), ()))
        self.refuse("s", (0, ((), ()), ()))
        self.refuse("(s q)", (0, ((),), ()))
        self.refuse("(s q)", (1, ((3,),), ()))
        self.refuse("s", (1, ((3,), ()), ()))
        self.refuse("s", (1, ((), (3,)), ()))
        self.refuse("s", (1, (), (3,)))

    def test_no_row_comes_first(self):
        for numbers in NOT_ROWS:
            for situation in ((0, ((),), ()), (7, (), (9,))):
                for function in (check_situation, moves_of):
                    with self.assertRaises(NotRow):
                        function(Yard("s"), numbers, situation)
                with self.assertRaises(NotRow):
                    made(Yard("s"), numbers, situation, (9, 9, 9, 9))


class MovesOfTest(unittest.TestCase):
    def check(self, text, row, situation, moves):
        self.assertEqual(moves_of(Yard(text), row, situation), moves)

    def test_each_device(self):
        first, second = (1, ((2,),), ()), (2, ((2, 1),), ())
        expected = {"s": ([1], [1]), "q": ([1], [0]), "d": ([0, 1], [0, 1]), "i": ([1], [0, 1]), "o": ([0, 1], [1])}
        for letter, (ins, outs) in expected.items():
            coming = [(-1, 0, 0, end) for end in ins]
            going = [(0, end, -1, 0) for end in outs]
            self.check(letter, [2, 1], (0, ((),), ()), coming)
            self.check(letter, [2, 1], first, coming + going)
            self.check(letter, [2, 1], second, going)
            self.check(letter, [2, 1], (2, ((),), (2, 1)), [])
            self.check(letter + "1", [2, 1], first, going)
            self.check(letter + "2", [2, 1], first, coming + going)

    def test_ascending_order(self):
        self.check("(d [d d])", [1, 2], (1, ((1,), (), ()), ()),
                   [(-1, 0, 0, 0), (-1, 0, 0, 1), (0, 0, 1, 0), (0, 0, 1, 1), (0, 0, 2, 0), (0, 0, 2, 1),
                    (0, 1, 1, 0), (0, 1, 1, 1), (0, 1, 2, 0), (0, 1, 2, 1)])

    def test_links_matter(self):
        self.check("(s q)", [1, 2], (2, ((1,), (2,)), ()), [(0, 1, 1, 1), (1, 0, -1, 0)])
        self.check("[s q]", [1, 2], (2, ((1,), (2,)), ()), [(0, 1, -1, 0), (1, 0, -1, 0)])
        self.check("(s q)", [1, 2], (0, ((), ()), ()), [(-1, 0, 0, 1)])
        self.check("[s q]", [1, 2], (0, ((), ()), ()), [(-1, 0, 0, 1), (-1, 0, 1, 1)])

    def test_bound_reached_and_not_reached(self):
        row = [1, 2, 3, 4, 5, 6, 7, 8]
        for bound in range(1, 7):
            less, full = tuple(range(1, bound)), tuple(range(1, bound + 1))
            self.assertIn((-1, 0, 0, 1), moves_of(Yard(f"s{bound}"), row, (bound - 1, (less,), ())))
            self.assertNotIn((-1, 0, 0, 1), moves_of(Yard(f"s{bound}"), row, (bound, (full,), ())))
            self.assertIn((0, 1, 1, 1), moves_of(Yard(f"(s s{bound})"), row, (bound, ((bound,), less), ())))
            self.assertNotIn((0, 1, 1, 1), moves_of(Yard(f"(s s{bound})"), row, (bound + 1, ((bound + 1,), full), ())))
        self.check("s", row, (8, (tuple(row),), ()), [(0, 1, -1, 0)])
        self.check("s", row, (7, (tuple(row[:7]),), ()), [(-1, 0, 0, 1), (0, 1, -1, 0)])

    def test_no_wagons(self):
        for text in YARDS:
            yard = Yard(text)
            self.assertEqual(moves_of(yard, [], first_situation(yard, [])), [])

    def test_the_situation_need_not_be_live(self):
        self.check("s", [2, 1, 3], (2, ((1,),), (2,)), [(-1, 0, 0, 1), (0, 1, -1, 0)])

    def test_all_situations(self):
        for text in YARDS:
            yard = Yard(text)
            for row in rows_with(3)[::2]:
                for situation in situations_of(yard, row):
                    self.assertIsNone(check_situation(yard, row, situation))
                    moves = possible(yard.kinds, yard.bounds, yard.links, row, situation)
                    self.assertEqual(moves_of(yard, row, situation), moves)
                    for move in moves:
                        self.assertEqual(made(yard, row, situation, move), moved(row, situation, move))

    def test_without_bounds_some_move_can_be_made(self):
        for text in ("s", "q", "d", "(s q)", "[s o]", "(i [s q] o)"):
            yard = Yard(text)
            for situation in situations_of(yard, [2, 3, 1]):
                if len(situation[2]) < 3:
                    self.assertNotEqual(moves_of(yard, [2, 3, 1], situation), [])


class MadeTest(unittest.TestCase):
    row = [3, 1, 4, 2]

    def test_ends(self):
        situation = (3, ((3, 1), (4,)), ())
        yard = Yard("[d d]")
        results = {(-1, 0, 0, 0): (4, ((2, 3, 1), (4,)), ()), (-1, 0, 0, 1): (4, ((3, 1, 2), (4,)), ()),
                   (-1, 0, 1, 0): (4, ((3, 1), (2, 4)), ()), (-1, 0, 1, 1): (4, ((3, 1), (4, 2)), ()),
                   (0, 0, -1, 0): (3, ((1,), (4,)), (3,)), (0, 1, -1, 0): (3, ((3,), (4,)), (1,)),
                   (1, 0, -1, 0): (3, ((3, 1), ()), (4,)), (1, 1, -1, 0): (3, ((3, 1), ()), (4,))}
        self.assertEqual(moves_of(yard, self.row, situation), sorted(results))
        for move, there in results.items():
            self.assertEqual(made(yard, self.row, situation, move), there)

    def test_between_devices(self):
        situation = (3, ((3, 1), (4,)), ())
        yard = Yard("(d d)")
        for move, held in (((0, 0, 1, 0), ((1,), (3, 4))), ((0, 0, 1, 1), ((1,), (4, 3))),
                           ((0, 1, 1, 0), ((3,), (1, 4))), ((0, 1, 1, 1), ((3,), (4, 1)))):
            self.assertEqual(made(yard, self.row, situation, move), (3, held, ()))

    def test_stack_and_queue(self):
        self.assertEqual(made(Yard("s"), self.row, (2, ((3, 1),), ()), (0, 1, -1, 0)), (2, ((3,),), (1,)))
        self.assertEqual(made(Yard("q"), self.row, (2, ((3, 1),), ()), (0, 0, -1, 0)), (2, ((1,),), (3,)))
        for text in "sq":
            self.assertEqual(made(Yard(text), self.row, (2, ((3, 1),), ()), (-1, 0, 0, 1)), (3, ((3, 1, 4),), ()))

    def test_end_of_gone(self):
        self.assertEqual(made(Yard("s"), self.row, (3, ((4,),), (3, 1)), (0, 1, -1, 0)), (3, ((),), (3, 1, 4)))

    def test_a_single_wagon_is_at_both_ends(self):
        yard = Yard("d")
        for end in (0, 1):
            self.assertEqual(made(yard, self.row, (1, ((3,),), ()), (0, end, -1, 0)), (1, ((),), (3,)))
            self.assertEqual(made(yard, self.row, (0, ((),), ()), (-1, 0, 0, end)), (1, ((3,),), ()))

    def refuse(self, text, situation, move):
        with self.assertRaises(BadMove) as caught:
            made(Yard(text), self.row, situation, move)
        self.assertEqual(caught.exception.at, 0)

    def test_moves_that_cannot_be_made(self):
        first = (0, ((), ()), ())
        one = (1, ((3,), ()), ())
        last = (4, ((3,), (1,)), (2, 4))
        for move in ((-1, 1, 0, 1), (-1, 0, 0, 0), (-1, 0, 1, 1), (-1, 0, -1, 0), (0, 1, 1, 1), (1, 0, -1, 0),
                     (2, 1, -1, 0), (-2, 0, 0, 1), (-1, 0, 2, 1), (-1, 0, 0, 2), (HUGE, 0, 0, 1), (-1, HUGE, 0, 1),
                     (-1, 0, -2, 1), (0, 0, 0, 0)):
            self.refuse("(s q)", first, move)
        for move in ((0, 0, 1, 1), (0, 1, 1, 0), (0, 1, -1, 0), (1, 0, -1, 0), (0, 1, 0, 1), (0, -1, 1, 1),
                     (0, 1, 1, -1), (1, 0, 0, 1), (0, 2, 1, 1)):
            self.refuse("(s q)", one, move)
        for move in ((-1, 0, 0, 1), (1, 1, -1, 0), (1, 0, -1, 1), (1, 0, 0, 1)):
            self.refuse("(s q)", last, move)

    def test_full_devices(self):
        self.refuse("s1", (1, ((3,),), ()), (-1, 0, 0, 1))
        self.refuse("(s1 q1)", (2, ((1,), (3,)), ()), (0, 1, 1, 1))
        self.assertEqual(made(Yard("s2"), self.row, (1, ((3,),), ()), (-1, 0, 0, 1)), (2, ((3, 1),), ()))

    def test_arguments_stay(self):
        row = [2, 1]
        yard = Yard("s")
        moves_of(yard, row, (1, ((2,),), ())).append(9)
        made(yard, row, (1, ((2,),), ()), (-1, 0, 0, 1))
        check_situation(yard, row, (1, ((2,),), ()))
        self.assertEqual(row, [2, 1])
        self.assertEqual((yard.kinds, yard.bounds, yard.links), (["s"], [None], [(-1, 0), (0, -1)]))
        self.assertEqual(moves_of(yard, row, (1, ((2,),), ())), [(-1, 0, 0, 1), (0, 1, -1, 0)])


if __name__ == "__main__":
    unittest.main()
