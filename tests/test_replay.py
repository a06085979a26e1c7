import unittest

from oracles import first_way, moved, rows_up_to, rows_with, turn_row
from yardsort.errors import BadMove, BadNumber, NotRow
from yardsort.replay import replay, sorts, taken, turned_moves, turned_row, without_wagon
from yardsort.rows import inverse, is_row, without
from yardsort.yards import Yard, turned

HUGE = 10 ** 5000
NOT_ROWS = ([0], [2], [1, 1], [1, 3], list(range(1, 62)))
IN = (-1, 0, 0, 1)
OUT = (0, 1, -1, 0)
YARDS = ("s", "q", "d", "i", "o", "s2", "d2", "(s2 q)", "[s1 q]", "(i o)", "(s s)", "[(s q1) o1]", "(i2 [s q1] o)",
         "([q1 i] [s o2])")
# A yard, and yards with greater bounds, without bounds, or with `d` for other letters.
WIDER = {
    "s1": ("s2", "s6", "s", "d1", "d"),
    "(s2 q1)": ("(s3 q1)", "(s2 q)", "(s q)", "(d2 q1)", "(s2 d1)", "(d d)"),
    "[i1 q1]": ("[i2 q1]", "[i q6]", "[d1 q1]", "[i1 d1]"),
    "(i2 [s1 q1] o1)": ("(i2 [s1 q1] o2)", "(i [s q] o)", "(d2 [s1 q1] o1)", "(i2 [d1 d1] d1)"),
}


def ways(text, size):
    """The rows of `size` wagons that a yard sorts, with a way for each."""
    yard = Yard(text)
    pairs = [(row, first_way(yard, row)) for row in rows_with(size)]
    return [(row, way) for row, way in pairs if way is not None]


def wagons_of(yard, row, moves):
    """The wagons that moves take, told by the places that change."""
    wagons = []
    situation = (0, ((),) * len(yard.kinds), ())
    for source, end, _, _ in moves:
        track = row[situation[0]:] if source == -1 else situation[1][source]
        wagons.append(track[0 if source == -1 or end == 0 else -1])
        situation = moved(row, situation, moves[len(wagons) - 1])
    return wagons


class ReplayTest(unittest.TestCase):
    def test_example(self):
        self.assertEqual(replay(Yard("s"), [2, 1], [IN, IN, OUT, OUT]),
                         [(0, ((),), ()), (1, ((2,),), ()), (2, ((2, 1),), ()), (2, ((2,),), (1,)), (2, ((),), (1, 2))])
        self.assertIs(sorts(Yard("s"), [2, 1], [IN, IN, OUT, OUT]), True)

    def test_no_moves(self):
        self.assertEqual(replay(Yard("(s q)"), [2, 1], []), [(0, ((), ()), ())])
        self.assertEqual(replay(Yard("s"), [], []), [(0, ((),), ())])
        self.assertEqual(taken(Yard("s"), [2, 1], []), [])

    def test_situations_need_not_be_live(self):
        self.assertEqual(replay(Yard("q"), [2, 1], [IN, (0, 0, -1, 0)]), [(0, ((),), ()), (1, ((2,),), ()), (1, ((),), (2,))])

    def test_the_way_of_each_row(self):
        for text in YARDS:
            yard = Yard(text)
            for row, way in ways(text, 3):
                situations = [(0, ((),) * len(yard.kinds), ())]
                for move in way:
                    situations.append(moved(row, situations[-1], move))
                self.assertEqual(replay(yard, row, way), situations)
                self.assertIs(sorts(yard, row, way), True)

    def test_60_wagons(self):
        row = list(range(60, 0, -1))
        moves = [IN] * 60 + [OUT] * 60
        self.assertEqual(replay(Yard("s"), row, moves)[-1], (60, ((),), tuple(range(1, 61))))
        self.assertEqual(len(replay(Yard("s"), row, moves)), 121)
        self.assertIs(sorts(Yard("s"), row, moves), True)
        self.assertIs(sorts(Yard("q"), row, moves), False)


class BadMoveTest(unittest.TestCase):
    way = [IN, IN, OUT, OUT]

    def refuse(self, text, row, moves, at):
        for function in (replay, taken):
            with self.assertRaises(BadMove) as caught:
                function(Yard(text), row, moves)
            self.assertEqual(caught.exception.at, at)
        for wagon in (1, 99):
            with self.assertRaises(BadMove) as caught:
                without_wagon(Yard(text), row, moves, wagon)
            self.assertEqual(caught.exception.at, at)
        self.assertIs(sorts(Yard(text), row, moves), False)

    def test_example(self):
        self.refuse("s1", [2, 1], self.way, 1)

    def test_first_middle_and_last_place(self):
        for wrong in ((-1, 0, 0, 0), (0, 0, -1, 0), (1, 1, -1, 0), (-1, 0, 1, 1), (-1, 0, -1, 0), (HUGE, 0, 0, 0),
                      (-2, 0, -1, 0), (-1, 1, 0, 1), (0, 1, -1, 1), (0, 1, 0, 1)):
            for at in range(5):
                self.refuse("s", [2, 1], self.way[:at] + [wrong] + self.way[at:], at)
                self.refuse("s", [2, 1], self.way[:at] + [wrong], at)
                self.refuse("s", [2, 1], self.way[:at] + [wrong, wrong] + self.way[at:], at)

    def test_no_wagon_left(self):
        self.refuse("s", [2, 1], [OUT], 0)
        self.refuse("s", [2, 1], [IN, IN, IN], 2)
        self.refuse("s", [2, 1], self.way + [OUT], 4)
        self.refuse("s", [2, 1], self.way + [IN], 4)
        self.refuse("s", [], [IN], 0)

    def test_bounds(self):
        row = [1, 2, 3, 4, 5, 6, 7]
        for bound in range(1, 7):
            self.refuse(f"q{bound}", row, [IN] * 7, bound)
        self.assertEqual(len(replay(Yard("q"), row, [IN] * 7)), 8)


class SortsTest(unittest.TestCase):
    def test_all_wagons_in_order(self):
        yard = Yard("s")
        self.assertIs(sorts(yard, [], []), True)
        self.assertIs(sorts(yard, [1], []), False)
        self.assertIs(sorts(yard, [1], [IN]), False)
        self.assertIs(sorts(yard, [1], [IN, OUT]), True)
        self.assertIs(sorts(yard, [1, 2], [IN, OUT]), False)
        self.assertIs(sorts(yard, [2, 1], [IN, IN, OUT]), False)
        self.assertIs(sorts(yard, [2, 1], [IN, OUT, IN, OUT]), False)
        self.assertIs(sorts(yard, [1, 2], [IN, IN, OUT, OUT]), False)
        self.assertIs(sorts(yard, [1, 2], [IN, OUT, IN, OUT]), True)

    def test_wider_yards(self):
        for text, others in WIDER.items():
            for row, way in ways(text, 3):
                for other in others:
                    self.assertIs(sorts(Yard(other), row, way), True, (text, other, row))

    def test_the_row_in_order(self):
        for text in ("s1", "q1", "d1", "i1", "o1", "(s1 q1)", "[s1 q1]", "(i1 [s1 q1] o1)"):
            yard = Yard(text)
            self.assertIs(sorts(yard, [1, 2, 3, 4], first_way(yard, [1, 2, 3, 4])), True)


class NoRowTest(unittest.TestCase):
    def test_no_row_comes_first(self):
        for numbers in NOT_ROWS:
            for moves in ([], [IN], [(9, 9, 9, 9)]):
                for function in (replay, sorts, taken):
                    with self.assertRaises(NotRow):
                        function(Yard("s"), numbers, moves)
                for wagon in (1, 99):
                    with self.assertRaises(NotRow):
                        without_wagon(Yard("s"), numbers, moves, wagon)
            with self.assertRaises(NotRow):
                turned_row(numbers)


class TakenTest(unittest.TestCase):
    def test_ordinary(self):
        self.assertEqual(taken(Yard("s"), [2, 1], [IN, IN, OUT, OUT]), [2, 1, 1, 2])
        self.assertEqual(taken(Yard("q"), [1, 2], [IN, IN, (0, 0, -1, 0), (0, 0, -1, 0)]), [1, 2, 1, 2])
        self.assertEqual(taken(Yard("d"), [2, 3, 1], [IN, IN, (-1, 0, 0, 0), (0, 0, -1, 0), (0, 0, -1, 0), OUT]),
                         [2, 3, 1, 1, 2, 3])
        self.assertEqual(taken(Yard("(s q)"), [1, 2], [IN, (0, 1, 1, 1), IN, (1, 0, -1, 0)]), [1, 1, 2, 1])

    def test_each_way(self):
        for text in YARDS:
            for row, way in ways(text, 3):
                self.assertEqual(taken(Yard(text), row, way), wagons_of(Yard(text), row, way))


class WithoutWagonTest(unittest.TestCase):
    def test_ordinary(self):
        self.assertEqual(without_wagon(Yard("s"), [2, 1], [IN, IN, OUT, OUT], 1), [IN, OUT])
        self.assertEqual(without_wagon(Yard("s"), [2, 1], [IN, IN, OUT], 1), [IN])
        self.assertEqual(without_wagon(Yard("s"), [2, 1], [IN, IN, OUT], 2), [IN, OUT])
        self.assertEqual(without_wagon(Yard("s"), [2, 1], [], 2), [])

    def test_the_others_sort_the_row_without_the_wagon(self):
        for text in YARDS:
            yard = Yard(text)
            for row, way in ways(text, 3) + ways(text, 4)[::5]:
                wagons = wagons_of(yard, row, way)
                for wagon in row:
                    left = without_wagon(yard, row, way, wagon)
                    self.assertEqual(left, [move for at, move in enumerate(way) if wagons[at] != wagon])
                    self.assertIs(sorts(yard, without(row, wagon), left), True)

    def test_no_such_wagon(self):
        for wagon in (0, 3, -1, HUGE, -HUGE):
            for moves in ([], [IN, IN, OUT, OUT]):
                with self.assertRaises(BadNumber):
                    without_wagon(Yard("s"), [2, 1], moves, wagon)
        with self.assertRaises(BadNumber):
            without_wagon(Yard("s"), [], [], 1)

    def test_bad_move_comes_first(self):
        for wagon in (0, 99):
            with self.assertRaises(BadMove) as caught:
                without_wagon(Yard("s"), [2, 1], [IN, IN, OUT, (5, 0, 0, 0)], wagon)
            self.assertEqual(caught.exception.at, 3)


class TurnedTest(unittest.TestCase):
    def test_turned_row(self):
        self.assertEqual(turned_row([]), [])
        self.assertEqual(turned_row([2, 3, 1]), [2, 3, 1])
        self.assertEqual(turned_row([1, 3, 4, 2]), [2, 3, 1, 4])
        self.assertEqual(turned_row([3, 2, 4, 1]), [2, 4, 3, 1])
        for row in rows_up_to(5) + [inverse(list(range(60, 0, -1)))]:
            self.assertEqual(turned_row(row), turn_row(row))
            self.assertTrue(is_row(turned_row(row)))
            self.assertEqual(turned_row(turned_row(row)), row)

    def test_turned_moves(self):
        self.assertEqual(turned_moves(Yard("s"), []), [])
        self.assertEqual(turned_moves(Yard("s"), [IN, IN, OUT, OUT]), [IN, IN, OUT, OUT])
        self.assertEqual(turned_moves(Yard("q"), [IN, (0, 0, -1, 0)]), [IN, (0, 0, -1, 0)])
        self.assertEqual(turned_moves(Yard("(i q)"), [IN, (0, 0, 1, 1), (1, 0, -1, 0)]),
                         [(-1, 0, 0, 1), (0, 0, 1, 0), (1, 1, -1, 0)])
        self.assertEqual(turned_moves(Yard("d"), [(-1, 0, 0, 0), OUT]), [(-1, 0, 0, 1), (0, 0, -1, 0)])
        self.assertEqual(turned_moves(Yard("[s q]"), [(-1, 0, 1, 1), IN, (0, 1, -1, 0), (1, 0, -1, 0)]),
                         [(-1, 0, 1, 1), IN, OUT, (1, 0, -1, 0)])

    def test_turned_moves_sort_the_turned_row(self):
        for text in YARDS:
            yard, other = Yard(text), Yard(turned(text))
            for row, way in ways(text, 2) + ways(text, 3) + ways(text, 4)[::3]:
                back = turned_moves(yard, way)
                self.assertIs(sorts(other, turn_row(row), back), True, (text, row))
                self.assertEqual(len(back), len(way))
                self.assertEqual(turned_moves(other, back), way)

    def test_arguments_stay_and_results_are_new(self):
        row, moves, yard = [2, 1], [IN, IN, OUT, OUT], Yard("s")
        replay(yard, row, moves).clear()
        taken(yard, row, moves).clear()
        sorts(yard, row, moves)
        without_wagon(yard, row, moves, 1).clear()
        turned_moves(yard, moves).clear()
        turned_row(row).clear()
        half = without_wagon(yard, [3, 1, 2], [IN], 1)
        half.append(OUT)
        self.assertEqual((row, moves, yard.links), ([2, 1], [IN, IN, OUT, OUT], [(-1, 0), (0, -1)]))
        self.assertEqual(len(replay(yard, row, moves)), 5)


if __name__ == "__main__":
    unittest.main()
