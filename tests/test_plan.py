import random
import unittest

from oracles import fault_of, first_way, is_live, live_situations, moved, pattern_of, possible, rows_up_to, rows_with
from yardsort.closed import closed_list
from yardsort.errors import BadMove, BadNumber, NotRow, NotYard, TooLarge
from yardsort.plan import Shift
from yardsort.replay import replay, without_wagon
from yardsort.search import solve
from yardsort.yards import Yard

HUGE = 10 ** 5000
NOT_ROWS = ([0], [2], [1, 1], [1, 3], [HUGE], list(range(1, 62)))
IN = (-1, 0, 0, 1)
OUT = (0, 1, -1, 0)
YARDS = ("s", "s2", "q", "d", "i", "o1", "(s2 q)", "[s1 q]", "(i o)", "[q q]")
# Shifts of which the search meets the sorted situation as the 4000th or 4001st one, or 4000 or more others.
JUST_MET = ("[s3 q]", [1, 2, 3, 13, 5, 6, 7, 8, 9, 10, 11, 12, 4])
JUST_NOT_MET = ("[s q]", [3, 2, 1, 7, 6, 8, 9, 5, 4, 10])
JUST_ENDED = ("d", [1, 2, 3, 6, 11, 4, 7, 9, 10, 8, 5])
JUST_TOO_MANY = ("[s s]", [8, 5, 3, 2, 9, 1, 4, 6, 10, 7])


class SlowShift:
    """A shift by the definition: what is in the yard is told by lists of wagons."""

    def __init__(self, text, row):
        self.yard, self.row, self.events = Yard(text), list(row), []
        self.situation = (0, ((),) * len(self.yard.kinds), ())

    def moves(self):
        yard = self.yard
        found = possible(yard.kinds, yard.bounds, yard.links, self.row, self.situation)
        return [move for move in found if is_live(moved(self.row, self.situation, move))]

    def move(self, move):
        self.situation = moved(self.row, self.situation, move)
        self.events.append(("move", move))

    def breaks(self, wagon):
        came, held, gone = self.situation
        order = [other for other in range(1, len(self.row) + 1) if other != wagon]
        numbers = {other: at + 1 for at, other in enumerate(order)}
        self.situation = (len([other for other in self.row[:came] if other != wagon]),
                          tuple(tuple(numbers[other] for other in track if other != wagon) for track in held), gone)
        self.row = pattern_of([other for other in self.row if other != wagon])
        self.events.append(("breaks", wagon))

    def is_late(self, wagon):
        self.row.remove(wagon)
        self.row.append(wagon)
        self.events.append(("late", wagon))


def image(shift):
    return (shift.row(), shift.situation(), list(shift), len(shift), shift.done, shift.yard.text)


def wandered(text, row, source, events):
    """A shift and its slow counterpart behind some random events."""
    shift, slow = Shift(text, row), SlowShift(text, row)
    for _ in range(events):
        left = [wagon for wagon in slow.row if wagon not in slow.situation[2]]
        choices = [("move", move) for move in slow.moves()] * 2 + [("breaks", wagon) for wagon in left]
        choices += [("is_late", wagon) for wagon in slow.row[slow.situation[0]:]]
        if choices:
            name, about = source.choice(choices)
            getattr(shift, name)(about)
            getattr(slow, name)(about)
    return shift, slow


class BeginningTest(unittest.TestCase):
    def test_ordinary(self):
        shift = Shift("(s2 q)", [3, 1, 2])
        self.assertEqual(image(shift), ([3, 1, 2], (0, ((), ()), ()), [], 0, False, "(s2 q)"))
        self.assertIsInstance(shift.yard, Yard)
        self.assertIsInstance(shift.situation(), tuple)

    def test_no_wagons(self):
        for text in YARDS:
            shift = Shift(text, [])
            self.assertEqual((shift.row(), shift.done, shift.plan(), shift.stuck()), ([], True, [], None))

    def test_errors_in_order(self):
        for text in ("", "(s)", "s7", "(s q"):
            for row in ([1], [1, 1]):
                with self.assertRaises(NotYard) as raised:
                    Shift(text, row)
                self.assertEqual(raised.exception.at, fault_of(text))
        for row in NOT_ROWS:
            with self.assertRaises(NotRow):
                Shift("s", row)

    def test_the_row_is_copied(self):
        row = [2, 1]
        shift = Shift("s", row)
        row.append(3)
        self.assertEqual(shift.row(), [2, 1])
        shift.row().clear()
        self.assertEqual(shift.row(), [2, 1])
        shift.is_late(2)
        self.assertEqual(row, [2, 1, 3])


class EventsTest(unittest.TestCase):
    def test_the_example(self):
        shift = Shift("s", [2, 3, 1])
        self.assertIsNone(shift.plan())
        shift.breaks(3)
        self.assertEqual(shift.row(), [2, 1])
        self.assertEqual(shift.plan(), [IN, IN, OUT, OUT])
        shift = Shift("s", [2, 3, 1])
        shift.is_late(3)
        self.assertEqual(shift.row(), [2, 1, 3])

    def test_moves(self):
        shift = Shift("s", [2, 1])
        shift.move(IN)
        self.assertEqual(shift.situation(), (1, ((2,),), ()))
        shift.move(IN)
        shift.move(OUT)
        self.assertEqual((shift.situation(), shift.done), ((2, ((2,),), (1,)), False))
        shift.move(OUT)
        self.assertEqual((shift.situation(), shift.done), ((2, ((),), (1, 2)), True))
        self.assertEqual(list(shift), [("move", IN), ("move", IN), ("move", OUT), ("move", OUT)])
        self.assertEqual((len(shift), shift.row()), (4, [2, 1]))

    def test_moves_that_are_not_allowed(self):
        shift = Shift("s1", [2, 1])
        shift.move(IN)
        before = image(shift)
        # No room, not live, no such link or end, nothing to take.
        for move in (IN, OUT, (0, 0, -1, 0), (-1, 0, 1, 1), (-1, 0, -1, 0), (-1, 1, 0, 1), (0, 1, 0, 1), (HUGE, 0, 0, 0),
                     (-1, 0, 0, 0), (5, -7, 9, 2)):
            with self.assertRaises(BadMove) as raised:
                shift.move(move)
            self.assertEqual(raised.exception.at, 0)
            self.assertEqual(image(shift), before)
        with self.assertRaises(BadMove):
            Shift("s", [1]).move(OUT)

    def test_a_wagon_that_has_not_come_breaks(self):
        shift = Shift("s", [3, 1, 4, 2])
        shift.move(IN)
        shift.breaks(1)
        self.assertEqual((shift.row(), shift.situation()), ([2, 3, 1], (1, ((2,),), ())))
        shift.breaks(3)
        self.assertEqual((shift.row(), shift.situation()), ([2, 1], (1, ((2,),), ())))
        self.assertEqual(list(shift), [("move", IN), ("breaks", 1), ("breaks", 3)])

    def test_a_wagon_in_the_yard_breaks(self):
        shift = Shift("[q s]", [1, 3, 4, 2])
        for move in ((-1, 0, 0, 1), (0, 0, -1, 0), (-1, 0, 0, 1), (-1, 0, 1, 1)):
            shift.move(move)
        shift.breaks(3)
        self.assertEqual((shift.row(), shift.situation()), ([1, 3, 2], (2, ((), (3,)), (1,))))
        shift.breaks(3)
        self.assertEqual((shift.row(), shift.situation()), ([1, 2], (1, ((), ()), (1,))))
        self.assertEqual(list(shift)[-2:], [("breaks", 3), ("breaks", 3)])

    def test_wagons_that_cannot_break(self):
        shift = Shift("s", [1, 3, 2])
        shift.move(IN)
        shift.move(OUT)
        before = image(shift)
        for wagon in (1, 0, 4, -1, HUGE):
            with self.assertRaises(BadNumber):
                shift.breaks(wagon)
            self.assertEqual(image(shift), before)
        with self.assertRaises(BadNumber):
            Shift("s", []).breaks(1)

    def test_late_wagons(self):
        shift = Shift("s", [2, 3, 1, 4])
        shift.is_late(2)
        self.assertEqual((shift.row(), shift.situation()), ([3, 1, 4, 2], (0, ((),), ())))
        shift.move(IN)
        shift.is_late(2)
        shift.is_late(1)
        self.assertEqual((shift.row(), shift.situation()), ([3, 4, 2, 1], (1, ((3,),), ())))
        self.assertEqual(list(shift), [("late", 2), ("move", IN), ("late", 2), ("late", 1)])

    def test_wagons_that_cannot_be_late(self):
        shift = Shift("s", [1, 3, 2])
        for move in (IN, OUT, IN):
            shift.move(move)
        before = image(shift)
        for wagon in (1, 3, 0, 4, -2, HUGE):
            with self.assertRaises(BadNumber):
                shift.is_late(wagon)
            self.assertEqual(image(shift), before)

    def test_the_last_wagon_breaks(self):
        shift = Shift("s", [1])
        shift.move(IN)
        shift.breaks(1)
        self.assertEqual((shift.row(), shift.situation(), shift.done, len(shift)), ([], (0, ((),), ()), True, 2))

    def test_events_are_not_shared(self):
        shift = Shift("s", [2, 1])
        shift.breaks(1)
        list(shift).clear()
        self.assertEqual(list(shift), [("breaks", 1)])
        self.assertEqual([event for event in shift], [("breaks", 1)])

    def test_random_events(self):
        source = random.Random(1)
        for _ in range(150):
            text, row = source.choice(YARDS), source.choice(rows_up_to(5))
            shift, slow = wandered(text, row, source, source.randint(0, 9))
            done = len(slow.situation[2]) == len(slow.row)
            self.assertEqual(image(shift), (slow.row, slow.situation, slow.events, len(slow.events), done, text))
            # Some moves lead to the situation from the first one.
            self.assertIn(slow.situation, live_situations(slow.yard, slow.row))


class PlanTest(unittest.TestCase):
    def test_at_the_beginning(self):
        for text in YARDS:
            for row in rows_up_to(3) + rows_with(4)[::5]:
                shift = Shift(text, row)
                self.assertEqual(shift.plan(), solve(Yard(text), row))
                self.assertEqual(shift.stuck(), closed_list(Yard(text), row))

    def test_behind_random_events(self):
        source = random.Random(2)
        stuck = 0
        for _ in range(150):
            text, row = source.choice(YARDS), source.choice(rows_up_to(5)[9:])
            shift, slow = wandered(text, row, source, source.randint(1, 6))
            before = image(shift)
            way = first_way(slow.yard, slow.row, slow.situation)
            self.assertEqual(shift.plan(), way)
            situations = live_situations(slow.yard, slow.row, slow.situation) if way is None else None
            self.assertEqual(shift.stuck(), situations)
            self.assertEqual(image(shift), before)
            stuck += way is None
        self.assertGreater(stuck, 10)

    def test_the_rest_of_the_plan(self):
        for text in YARDS:
            for row in rows_with(4)[::3]:
                shift = Shift(text, row)
                plan = shift.plan()
                while plan:
                    shift.move(plan[0])
                    self.assertEqual(shift.plan(), plan[1:])
                    plan = plan[1:]

    def test_at_the_end(self):
        shift = Shift("s", [1])
        shift.move(IN)
        self.assertEqual(shift.plan(), [OUT])
        shift.move(OUT)
        self.assertEqual((shift.plan(), shift.stuck(), shift.done), ([], None, True))

    def test_stuck(self):
        shift = Shift("s", [2, 3, 1])
        self.assertEqual(shift.stuck(), [(0, ((),), ()), (1, ((2,),), ()), (2, ((2, 3),), ()), (3, ((2, 3),), (1,)),
                                         (3, ((2, 3, 1),), ())])
        shift.move(IN)
        self.assertEqual(shift.stuck(), [(1, ((2,),), ()), (2, ((2, 3),), ()), (3, ((2, 3),), (1,)), (3, ((2, 3, 1),), ())])
        self.assertIsNone(shift.plan())

    def test_a_late_wagon_takes_the_plan_away(self):
        shift = Shift("s", [1, 2, 3])
        self.assertIsNotNone(shift.plan())
        shift.is_late(1)
        self.assertIsNone(shift.plan())
        self.assertIsNotNone(shift.stuck())

    def test_a_broken_wagon_leaves_a_plan_that_is_not_longer(self):
        source = random.Random(3)
        for _ in range(60):
            shift, slow = wandered(source.choice(YARDS), source.choice(rows_with(4)), source, source.randint(0, 4))
            plan = shift.plan()
            left = [wagon for wagon in shift.row() if wagon not in shift.situation()[2]]
            if plan is not None and left:
                shift.breaks(source.choice(left))
                self.assertLessEqual(len(shift.plan()), len(plan))

    def test_too_large(self):
        self.assertEqual(Shift(*JUST_MET).plan(), solve(Yard(JUST_MET[0]), JUST_MET[1]))
        self.assertIsNone(Shift(*JUST_MET).stuck())
        self.assertEqual(len(Shift(*JUST_ENDED).stuck()), 4000)
        self.assertIsNone(Shift(*JUST_ENDED).plan())
        for text, row in (JUST_NOT_MET, JUST_TOO_MANY, ("(d d d d d d d d)", [4, 3, 2, 1])):
            shift = Shift(text, row)
            for method in (shift.plan, shift.stuck):
                with self.assertRaises(TooLarge):
                    method()
            self.assertEqual(image(shift)[:4], (row, (0, ((),) * len(shift.yard), ()), [], 0))

    def test_the_search_begins_at_the_situation(self):
        text, row = "[s s s]", list(range(7, 0, -1))
        shift = Shift(text, row)
        with self.assertRaises(TooLarge):
            shift.plan()
        for _ in range(7):
            shift.move(IN)
        self.assertEqual(shift.plan(), [OUT] * 7)


class FactsTest(unittest.TestCase):
    def test_two_broken_wagons_in_either_order(self):
        source = random.Random(4)
        for _ in range(80):
            text, row, seed = source.choice(YARDS), source.choice(rows_with(5)), source.random()
            first, _ = wandered(text, row, random.Random(seed), 5)
            second, _ = wandered(text, row, random.Random(seed), 5)
            left = sorted(wagon for wagon in first.row() if wagon not in first.situation()[2])
            if len(left) > 1:
                v, w = sorted(source.sample(left, 2))
                first.breaks(v)
                first.breaks(w - 1)
                second.breaks(w)
                second.breaks(v)
                self.assertEqual((first.row(), first.situation()), (second.row(), second.situation()))

    def test_moves_without_those_of_a_broken_wagon(self):
        source = random.Random(5)
        for _ in range(80):
            text, row = source.choice(YARDS), source.choice(rows_with(5))
            slow, moves = SlowShift(text, row), []
            while slow.moves() and len(moves) < 8:
                moves.append(source.choice(slow.moves()))
                slow.move(moves[-1])
            left = [wagon for wagon in row if wagon not in slow.situation[2]]
            if left:
                wagon = source.choice(left)
                one, other = Shift(text, row), Shift(text, row)
                for move in moves:
                    one.move(move)
                one.breaks(wagon)
                other.breaks(wagon)
                for move in without_wagon(slow.yard, row, moves, wagon):
                    other.move(move)
                self.assertEqual((one.row(), one.situation()), (other.row(), other.situation()))
                self.assertEqual(replay(slow.yard, row, moves)[-1], slow.situation)


if __name__ == "__main__":
    unittest.main()
