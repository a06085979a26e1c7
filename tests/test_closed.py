import unittest

from oracles import first_way, live_situations, possible, moved, rows_with, is_live
from yardsort.closed import closed_list, first_gap, is_closed
from yardsort.errors import NotRow, TooLarge
from yardsort.search import solve
from yardsort.yards import Yard

HUGE = 10 ** 5000
NOT_ROWS = ([0], [2], [1, 1], [1, 3], list(range(1, 62)))
YARDS = ("s", "q", "i", "o", "s1", "s2", "q3", "d2", "(s2 q)", "[s1 q]", "[q q]", "(s1 s1)", "[d1 s1]")
EXAMPLE = [(0, ((),), ()), (1, ((2,),), ()), (2, ((2, 3),), ()), (3, ((2, 3),), (1,)), (3, ((2, 3, 1),), ())]
# Situations of the example that are not in its list: these are live, but no moves lead to them.
OTHERS = [(1, ((2,),), ()), (2, ((3, 2),), ()), (3, ((3, 2),), (1,))]
NO_SITUATIONS = [(0, (), ()), (0, ((), ()), ()), (1, ((1,),), ()), (1, ((),), ()), (4, ((2, 3, 1),), ()),
                 (-1, ((2, 3),), ()), (2, ((2,),), ()), (3, ((2, 3, 1),), (1,)), (HUGE, ((),), ()), (1, ((HUGE,),), ()),
                 (3, ((2, 2),), (1,)), (0, ((),), (1,))]
NOT_LIVE = [(1, ((),), (2,)), (2, ((3,),), (2,)), (3, ((),), (1, 3, 2)), (3, ((3,),), (2, 1))]


def unsorted_rows(yard, size):
    return [row for row in rows_with(size) if first_way(yard, row) is None]


class ClosedListTest(unittest.TestCase):
    def test_example(self):
        self.assertEqual(closed_list(Yard("s"), [2, 3, 1]), EXAMPLE)
        self.assertIsNone(closed_list(Yard("s"), [2, 1]))

    def test_the_situations_that_moves_lead_to_in_ascending_order(self):
        for text in YARDS:
            yard = Yard(text)
            for row in unsorted_rows(yard, 3) + unsorted_rows(yard, 4)[::5]:
                self.assertEqual(closed_list(yard, row), live_situations(yard, row))

    def test_a_way_or_a_closed_list(self):
        for text in YARDS:
            yard = Yard(text)
            for size in range(4):
                for row in rows_with(size):
                    situations = closed_list(yard, row)
                    self.assertEqual(situations is None, solve(yard, row) is not None)
                    if situations is not None:
                        self.assertIs(is_closed(yard, row, situations), True)
                        self.assertIsNone(first_gap(yard, row, situations))

    def test_no_wagons(self):
        self.assertIsNone(closed_list(Yard("s"), []))

    def test_4000_and_more_situations(self):
        yard, row = Yard("d"), [1, 2, 3, 6, 11, 4, 7, 9, 10, 8, 5]
        situations = closed_list(yard, row)
        self.assertEqual(len(situations), 4000)
        self.assertIs(is_closed(yard, row, situations), True)
        yard, row = Yard("[s s]"), [8, 5, 3, 2, 9, 1, 4, 6, 10, 7]
        self.assertEqual(len(live_situations(yard, row)), 4001)
        self.assertIs(is_closed(yard, row, live_situations(yard, row)), True)
        with self.assertRaises(TooLarge):
            closed_list(yard, row)
        with self.assertRaises(TooLarge):
            closed_list(Yard("[s q]"), [3, 2, 1, 7, 6, 8, 9, 5, 4, 10])
        with self.assertRaises(TooLarge):
            closed_list(Yard("(d d d d d d d d)"), [4, 3, 2, 1])

    def test_no_row(self):
        for numbers in NOT_ROWS:
            with self.assertRaises(NotRow):
                closed_list(Yard("s"), numbers)


class IsClosedTest(unittest.TestCase):
    def check(self, situations, gap, text="s", row=(2, 3, 1)):
        yard, row = Yard(text), list(row)
        self.assertEqual(first_gap(yard, row, situations), gap)
        self.assertIs(is_closed(yard, row, situations), gap is None)

    def test_example(self):
        self.check(EXAMPLE, None)

    def test_other_order_and_doubled_entries(self):
        self.check(EXAMPLE[::-1], None)
        self.check(EXAMPLE[2:] + EXAMPLE[:2], None)
        self.check(EXAMPLE + EXAMPLE, None)
        self.check([EXAMPLE[4]] + EXAMPLE + [EXAMPLE[0], EXAMPLE[0]], None)

    def test_empty_list(self):
        self.check([], 0)
        self.check([], 0, row=[])
        self.check([], 0, row=[2, 1])

    def test_one_left_out(self):
        self.check(EXAMPLE[1:], 4)
        self.check(EXAMPLE[1:] + EXAMPLE[1:], 8)
        self.check(EXAMPLE[:1] + EXAMPLE[2:], 0)
        self.check(EXAMPLE[:2] + EXAMPLE[3:], 1)
        self.check(EXAMPLE[:3] + EXAMPLE[4:], 3)
        self.check(EXAMPLE[:4], 2)
        self.check(EXAMPLE[:4][::-1], 1)
        self.check(EXAMPLE[:1], 0)
        self.check(EXAMPLE[4:] + EXAMPLE[3:4], 2)

    def test_each_one_left_out_of_longer_lists(self):
        for text, row in (("s2", [3, 2, 1]), ("[q q]", [3, 2, 1]), ("i", [3, 2, 4, 1]), ("(s2 q)", [2, 3, 1])):
            yard = Yard(text)
            whole = live_situations(yard, row)
            self.check(whole, None, text, row)
            for at, situation in enumerate(whole):
                less = whole[:at] + whole[at + 1:]
                leading = [place for place, other in enumerate(less) if situation in
                           [moved(row, other, move)
                            for move in possible(yard.kinds, yard.bounds, yard.links, row, other)]]
                self.check(less, leading[0] if leading else len(less), text, row)

    def test_not_a_situation(self):
        for wrong in NO_SITUATIONS:
            self.check(EXAMPLE + [wrong], 5)
            self.check([wrong] + EXAMPLE, 0)
            self.check(EXAMPLE[:2] + [wrong] + EXAMPLE[2:], 2)

    def test_not_live(self):
        for wrong in NOT_LIVE:
            self.check(EXAMPLE + [wrong], 5)
            self.check([wrong] + EXAMPLE, 0)
            self.check(EXAMPLE[:3] + [wrong] + EXAMPLE[3:], 3)

    def test_live_situations_that_moves_do_not_lead_to(self):
        self.check(EXAMPLE + [(1, ((2,),), ())], None)
        self.check(EXAMPLE + [(2, ((3, 2),), ())], 5)
        self.check(EXAMPLE + [(3, ((3, 1, 2),), ())], None)
        self.check(EXAMPLE + [(3, ((3, 2),), (1,))], 5)

    def test_the_sorted_situation(self):
        done = (3, ((),), (1, 2, 3))
        self.check(EXAMPLE + [done], 5)
        self.check([done], 0)
        every = live_situations(Yard("s"), [2, 1])
        self.check(every, every.index((2, ((),), (1, 2))), row=[2, 1])
        less = [situation for situation in every if situation != (2, ((),), (1, 2))]
        self.check(less, less.index((2, ((2,),), (1,))), row=[2, 1])
        self.check([(0, ((),), ())], 0, row=[])

    def test_situations_of_another_yard_or_row(self):
        self.check(EXAMPLE, 2, text="s1")
        self.check(EXAMPLE, 3, text="q")
        self.check(EXAMPLE, 0, text="(s q)")
        self.check(EXAMPLE, 0, row=[3, 2, 1])
        self.check(EXAMPLE, 1, row=[2, 1])

    def test_no_list_is_closed_for_a_row_that_is_sorted(self):
        for text, row in (("s", [2, 1]), ("d", [2, 3, 1]), ("[q q]", [2, 1])):
            yard = Yard(text)
            every = live_situations(yard, row)
            self.assertIs(is_closed(yard, row, every), False)
            unsorted = [situation for situation in every if len(situation[2]) < len(row)]
            self.assertIs(is_closed(yard, row, unsorted), False)

    def test_every_closed_list_contains_the_list_of_the_search(self):
        for text in ("s2", "[q1 s1]", "i2"):
            yard = Yard(text)
            for row in unsorted_rows(yard, 3):
                least = closed_list(yard, row)
                for at in range(len(least)):
                    self.assertIs(is_closed(yard, row, least[:at] + least[at + 1:]), False)
                self.assertTrue(all(is_live(situation) for situation in least))

    def test_no_row(self):
        for numbers in NOT_ROWS:
            for situations in ([], EXAMPLE):
                for function in (first_gap, is_closed):
                    with self.assertRaises(NotRow):
                        function(Yard("s"), numbers, situations)

    def test_arguments_stay_and_results_are_new(self):
        row, yard, situations = [2, 3, 1], Yard("s"), list(EXAMPLE)
        closed_list(yard, row).clear()
        is_closed(yard, row, situations)
        first_gap(yard, row, situations)
        self.assertEqual((row, situations, yard.kinds), ([2, 3, 1], EXAMPLE, ["s"]))
        self.assertEqual(closed_list(yard, row), EXAMPLE)


if __name__ == "__main__":
    unittest.main()
