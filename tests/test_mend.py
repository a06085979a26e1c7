import random
import unittest

from oracles import first_way, is_live, live_situations, moved, possible, rows_up_to
from yardsort.closed import closed_list, first_gap
from yardsort.errors import BadMove, BadNumber, TooLarge
from yardsort.mend import is_plan, is_stuck, mended
from yardsort.plan import Shift
from yardsort.yards import Yard

HUGE = 10 ** 5000
IN = (-1, 0, 0, 1)
OUT = (0, 1, -1, 0)
YARDS = ("s", "s2", "q", "d", "i", "o1", "(s2 q)", "[s1 q]", "(i o)", "[q q]")


def image(shift):
    return (shift.row(), shift.situation(), list(shift), len(shift), shift.done)


def slow_fault(shift, moves):
    """The index that tells why a list is no plan, or None: by trying every move in its turn."""
    yard, row, situation = shift.yard, shift.row(), shift.situation()
    for at, move in enumerate(moves):
        if move not in possible(yard.kinds, yard.bounds, yard.links, row, situation):
            return at
        situation = moved(row, situation, move)
        if not is_live(situation):
            return at
    return None if list(situation[2]) == list(range(1, len(row) + 1)) else len(moves)


def slow_mended(shift, moves, wagon):
    """The moves of a plan that take another wagon, as the wagon is seen to change its place."""
    row, situation = shift.row(), shift.situation()
    kept = []
    for move in moves:
        there = moved(row, situation, move)
        places = [[at for at, track in enumerate(held) if wagon in track] + [wagon in gone, wagon in row[came:]]
                  for came, held, gone in (situation, there)]
        # No link leads from a device to itself.
        if places[0] == places[1]:
            kept.append(move)
        situation = there
    return kept


def slow_is_stuck(shift, situations):
    """Whether a list is a stuck list: it contains what is met from each entry, and the shift's situation."""
    yard, row = shift.yard, shift.row()
    for situation in situations:
        came, held, gone = situation
        wagons = sorted([*gone, *[wagon for track in held for wagon in track]])
        if not 0 <= came <= len(row) or len(held) != len(yard.kinds) or wagons != sorted(row[:came]):
            return False
        if any(bound is not None and len(track) > bound for bound, track in zip(yard.bounds, held)):
            return False
        if not is_live(situation) or len(gone) == len(row):
            return False
        for move in possible(yard.kinds, yard.bounds, yard.links, row, situation):
            there = moved(row, situation, move)
            if is_live(there) and there not in situations:
                return False
    return shift.situation() in situations


def shifts(seed, count, texts=YARDS, longest=4):
    """Shifts behind some random events, with and without plans."""
    source = random.Random(seed)
    for _ in range(count):
        text = source.choice(texts)
        size = source.randint(0, longest)
        shift = Shift(text, source.sample(range(1, size + 1), size))
        for _ in range(source.randint(0, 5)):
            row, (came, _, gone) = shift.row(), shift.situation()
            kind = source.choice(("move", "move", "move", "breaks", "late"))
            left = [wagon for wagon in row if wagon not in gone]
            moves = [move for move in possible(shift.yard.kinds, shift.yard.bounds, shift.yard.links, row, shift.situation())
                     if is_live(moved(row, shift.situation(), move))]
            if kind == "move" and moves:
                shift.move(source.choice(moves))
            elif kind == "breaks" and left and source.random() < 0.5:
                shift.breaks(source.choice(left))
            elif kind == "late" and row[came:]:
                shift.is_late(source.choice(row[came:]))
        yield shift


def spoiled(moves, source):
    """A list of moves with one of them changed, left out or put in, or in another order."""
    pool = moves + [IN, OUT, (-1, 0, 0, 0), (0, 0, -1, 0), (0, 1, 1, 1), (HUGE, -HUGE, 7, 2), (-1, 0, -1, 0)]
    at = source.randrange(len(moves) + 1)
    return source.choice([
        moves[:at] + [source.choice(pool)] + moves[at + 1:],
        moves[:at] + moves[at + 1:],
        moves[:at] + [source.choice(pool)] + moves[at:],
        moves + [source.choice(pool)],
        source.sample(moves, len(moves)),
    ])


class PlansTest(unittest.TestCase):
    def test_the_example(self):
        shift = Shift("s", [2, 3, 1])
        self.assertFalse(is_plan(shift, [IN, IN, OUT, OUT]))
        shift.breaks(3)
        self.assertTrue(is_plan(shift, [IN, IN, OUT, OUT]))
        self.assertEqual(mended(shift, [IN, IN, OUT, OUT], 1), [IN, OUT])

    def test_changed_plans(self):
        plan = [IN, IN, OUT, OUT]
        shift = Shift("s", [2, 1])
        self.assertTrue(is_plan(shift, plan))
        for at in range(4):
            self.assertFalse(is_plan(shift, plan[:at]))
            self.assertFalse(is_plan(shift, plan[:at] + plan[at + 1:]))
            self.assertFalse(is_plan(shift, plan[:at] + plan[at:at + 1] + plan[at:]))
            for move in (IN, OUT, (-1, 0, 0, 0), (-1, 1, 0, 1), (0, 0, -1, 0), (0, 1, 0, 1), (HUGE, 0, 0, 0)):
                if move != plan[at]:
                    self.assertFalse(is_plan(shift, plan[:at] + [move] + plan[at + 1:]))
        for move in (IN, OUT, (-1, 0, -1, 0)):
            self.assertFalse(is_plan(shift, plan + [move]))
        self.assertFalse(is_plan(shift, []))

    def test_a_plan_need_not_be_the_shortest(self):
        shift = Shift("(d d)", [1])
        for start in (0, 1):
            for end in (0, 1):
                self.assertTrue(is_plan(shift, [(-1, 0, 0, start), (0, end, 1, start), (1, end, -1, 0)]))
        shift = Shift("[s (s s)]", [1])
        self.assertTrue(is_plan(shift, [(-1, 0, 1, 1), (1, 1, 2, 1), (2, 1, -1, 0)]))
        self.assertTrue(is_plan(shift, [(-1, 0, 0, 1), (0, 1, -1, 0)]))

    def test_it_begins_where_the_shift_is(self):
        shift = Shift("s", [2, 1])
        shift.move(IN)
        self.assertTrue(is_plan(shift, [IN, OUT, OUT]))
        self.assertFalse(is_plan(shift, [IN, IN, OUT, OUT]))
        for move in (IN, OUT, OUT):
            shift.move(move)
        self.assertTrue(is_plan(shift, []))
        self.assertFalse(is_plan(shift, [OUT]))
        self.assertFalse(is_plan(shift, [IN]))
        self.assertTrue(is_plan(Shift("s", []), []))
        self.assertFalse(is_plan(Shift("s", []), [IN]))

    def test_a_move_must_lead_to_a_live_situation(self):
        shift = Shift("q", [2, 1])
        self.assertFalse(is_plan(shift, [IN, (0, 0, -1, 0), IN, (0, 0, -1, 0)]))

    def test_small_cases(self):
        source = random.Random(1)
        for shift in shifts(2, 300):
            before = image(shift)
            plan = shift.plan()
            self.assertEqual(plan, first_way(shift.yard, shift.row(), shift.situation()))
            if plan is None:
                self.assertFalse(is_plan(shift, []))
                continue
            self.assertTrue(is_plan(shift, plan))
            for _ in range(8):
                moves = spoiled(plan, source)
                copy = list(moves)
                self.assertEqual(is_plan(shift, moves), slow_fault(shift, moves) is None, (shift.yard.text, moves))
                self.assertEqual(moves, copy)
            self.assertEqual(image(shift), before)


class StuckTest(unittest.TestCase):
    def test_the_example(self):
        shift = Shift("s", [2, 3, 1])
        stuck = shift.stuck()
        self.assertTrue(is_stuck(shift, stuck))
        self.assertFalse(is_stuck(Shift("s", [2, 1]), stuck))
        self.assertFalse(is_stuck(Shift("q", [2, 3, 1]), stuck))

    def test_orders_and_gaps(self):
        shift = Shift("s", [2, 3, 1])
        stuck = shift.stuck()
        self.assertEqual(len(stuck), 5)
        self.assertTrue(is_stuck(shift, stuck[::-1]))
        self.assertTrue(is_stuck(shift, stuck[2:] + stuck[:2]))
        self.assertTrue(is_stuck(shift, stuck + stuck))
        for at in range(5):
            self.assertTrue(is_stuck(shift, stuck + [stuck[at]]))
            self.assertFalse(is_stuck(shift, stuck[:at] + stuck[at + 1:]))
        self.assertFalse(is_stuck(shift, []))

    def test_entries_that_are_no_situations(self):
        shift = Shift("s", [2, 3, 1])
        stuck = shift.stuck()
        wrong = ((4, ((2, 3, 1),), ()), (-1, ((),), ()), (HUGE, ((),), ()), (0, (), ()), (0, ((), ()), ()), (1, ((3,),), ()),
                 (1, ((2, 2),), ()), (1, ((2,),), (2,)), (2, ((2,),), (3,)), (3, ((3,),), (2, 1)), (3, ((),), (1, 2, 3)),
                 (0, ((-HUGE,),), ()), (1, ((),), (2,)))
        for situation in wrong:
            for at in (0, 3, 5):
                self.assertFalse(is_stuck(shift, stuck[:at] + [situation] + stuck[at:]), situation)

    def test_bounds(self):
        shift = Shift("s2", [3, 2, 1])
        stuck = shift.stuck()
        self.assertTrue(is_stuck(shift, stuck))
        self.assertFalse(is_stuck(shift, stuck + [(3, ((3, 2, 1),), ())]))

    def test_more_than_is_needed(self):
        # Another way to begin leads to situations that may stand in the list, too.
        shift = Shift("[s s]", [2, 3, 4, 1])
        for move in ((-1, 0, 0, 1), (-1, 0, 0, 1), (-1, 0, 0, 1)):
            shift.move(move)
        stuck = shift.stuck()
        self.assertIsNotNone(stuck)
        other = Shift("[s s]", [2, 3, 4, 1])
        for move in ((-1, 0, 1, 1), (-1, 0, 1, 1), (-1, 0, 1, 1)):
            other.move(move)
        both = stuck + other.stuck()
        self.assertTrue(is_stuck(shift, both))
        self.assertTrue(is_stuck(other, both))
        self.assertFalse(is_stuck(other, stuck))
        # From the beginning on there is a plan, so no such list contains the beginning.
        self.assertFalse(is_stuck(Shift("[s s]", [2, 3, 4, 1]), both))

    def test_it_must_contain_the_situation_of_the_shift(self):
        yard, row = Yard("s"), [2, 3, 1]
        whole = closed_list(yard, row)
        shift = Shift("s", row)
        self.assertTrue(is_stuck(shift, whole))
        shift.move(IN)
        self.assertTrue(is_stuck(shift, whole))
        self.assertTrue(is_stuck(shift, whole[1:]))
        self.assertEqual(first_gap(yard, row, whole[1:]), len(whole) - 1)
        self.assertFalse(is_stuck(shift, whole[2:]))
        self.assertFalse(is_stuck(Shift("s", row), whole[1:]))

    def test_no_wagons(self):
        self.assertFalse(is_stuck(Shift("s", []), []))
        self.assertFalse(is_stuck(Shift("s", []), [(0, ((),), ())]))

    def test_small_cases(self):
        source = random.Random(3)
        seen = {True: 0, False: 0}
        for shift in shifts(4, 300, ("s", "s1", "q", "s2", "(q s1)", "[q q]", "o", "(s1 s1)")):
            before = image(shift)
            stuck = shift.stuck()
            met = live_situations(shift.yard, shift.row(), shift.situation())
            self.assertEqual(stuck is None, shift.plan() is not None)
            lists = [met] + ([stuck, stuck[::-1]] if stuck is not None else [])
            for _ in range(6):
                pool = met + [(0, ((),) * len(shift.yard.kinds), ()), (1, ((1,),) * len(shift.yard.kinds), (1,))]
                at = source.randrange(len(met))
                lists.append(source.choice([met[:at] + met[at + 1:], met + [source.choice(pool)],
                                            source.sample(met, len(met)), met[at:]]))
            for situations in lists:
                copy = list(situations)
                found = is_stuck(shift, situations)
                seen[found] += 1
                self.assertEqual(found, slow_is_stuck(shift, situations), (shift.yard.text, shift.row()))
                self.assertEqual(situations, copy)
            self.assertEqual(image(shift), before)
        self.assertGreater(min(seen.values()), 200)


class MendedTest(unittest.TestCase):
    def test_ordinary(self):
        shift = Shift("s", [3, 2, 1])
        plan = [IN, IN, IN, OUT, OUT, OUT]
        self.assertEqual(mended(shift, plan, 3), [IN, IN, OUT, OUT])
        shift = Shift("(s q)", [2, 1])
        plan = shift.plan()
        self.assertEqual(plan, [IN, IN, (0, 1, 1, 1), (0, 1, 1, 1), (1, 0, -1, 0), (1, 0, -1, 0)])
        self.assertEqual(mended(shift, plan, 2), [IN, (0, 1, 1, 1), (1, 0, -1, 0)])

    def test_wagons(self):
        shift = Shift("s", [1, 3, 2])
        plan = shift.plan()
        for wagon in (0, 4, -1, HUGE, -HUGE):
            with self.assertRaises(BadNumber):
                mended(shift, plan, wagon)
        shift.move(IN)
        shift.move(OUT)
        plan = shift.plan()
        with self.assertRaises(BadNumber):
            mended(shift, plan, 1)
        self.assertEqual(mended(shift, plan, 2), [IN, OUT])
        self.assertEqual(mended(shift, plan, 3), [IN, OUT])

    def test_lists_that_are_no_plans(self):
        shift = Shift("s", [2, 1])
        plan = [IN, IN, OUT, OUT]
        for moves, at in (([], 0), ([IN], 1), (plan[:3], 3), ([IN, OUT, IN, OUT], 1), (plan + [OUT], 4), (plan + [IN], 4),
                          ([OUT], 0), ([(0, 0, 0, 0)], 0), ([IN, IN, OUT, (HUGE, 0, 0, 0)], 3), ([IN, IN, IN], 2),
                          ([IN, IN, OUT, (0, 0, -1, 0), OUT], 3)):
            for wagon in (1, 2):
                with self.assertRaises(BadMove) as raised:
                    mended(shift, moves, wagon)
                self.assertEqual(raised.exception.at, at, moves)

    def test_errors_in_order(self):
        shift = Shift("s", [2, 1])
        for wagon in (0, 3, HUGE):
            with self.assertRaises(BadNumber):
                mended(shift, [OUT], wagon)
        shift.move(IN)
        shift.move(IN)
        shift.move(OUT)
        for moves in ([OUT], [IN], []):
            with self.assertRaises(BadNumber):
                mended(shift, moves, 1)
        with self.assertRaises(BadMove):
            mended(shift, [IN], 2)

    def test_a_shift_without_wagons_left(self):
        for wagon in (0, 1):
            with self.assertRaises(BadNumber):
                mended(Shift("s", []), [], wagon)

    def test_small_cases(self):
        source = random.Random(5)
        for shift in shifts(6, 250):
            row, gone, before = shift.row(), shift.situation()[2], image(shift)
            plan = shift.plan()
            moves = plan if plan is not None else [IN]
            for wagon in [wagon for wagon in row if wagon not in gone]:
                if plan is None:
                    with self.assertRaises(BadMove):
                        mended(shift, moves, wagon)
                    continue
                found = mended(shift, plan, wagon)
                self.assertEqual(found, slow_mended(shift, plan, wagon))
                behind = again(shift)
                behind.breaks(wagon)
                self.assertTrue(is_plan(behind, found))
                self.assertLessEqual(len(behind.plan()), len(found))
                self.assertIsNot(found, plan)
                wrong = spoiled(plan, source)
                if slow_fault(shift, wrong) is not None:
                    with self.assertRaises(BadMove) as raised:
                        mended(shift, wrong, wagon)
                    self.assertEqual(raised.exception.at, slow_fault(shift, wrong))
            self.assertEqual(image(shift), before)

    def test_a_late_wagon_can_take_the_plan_away(self):
        shift = Shift("s", [1, 2, 3])
        plan = shift.plan()
        shift.is_late(1)
        self.assertEqual(shift.row(), [2, 3, 1])
        self.assertFalse(is_plan(shift, plan))
        self.assertTrue(is_stuck(shift, shift.stuck()))

    def test_a_search_is_not_needed(self):
        # The search of this shift is too large, but a plan for it can be judged and mended.
        row = list(range(1, 13))
        shift = Shift("[s s s]", row)
        plan = [move for at in range(12) for move in ((-1, 0, at % 3, 1), (at % 3, 1, -1, 0))]
        with self.assertRaises(TooLarge):
            Shift("[s s s]", row[::-1]).plan()
        self.assertTrue(is_plan(shift, plan))
        self.assertEqual(mended(shift, plan, 5), plan[:8] + plan[10:])


def again(shift):
    """Another shift with the same events."""
    first = list(range(1, len(shift.row()) + 1 + len([event for event in shift if event[0] == "breaks"])))
    for row in rows_up_to(len(first)):
        copy = Shift(shift.yard.text, row)
        try:
            for name, about in shift:
                getattr(copy, "is_late" if name == "late" else name)(about)
        except (BadMove, BadNumber):
            continue
        if (copy.row(), copy.situation()) == (shift.row(), shift.situation()):
            return copy
    raise AssertionError("no row leads to this shift")


if __name__ == "__main__":
    unittest.main()
