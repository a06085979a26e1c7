import unittest

from oracles import closed, shape_moves
from yardsort.errors import Unbounded
from yardsort.shapes import capacity, closed_set, empty_shape, silent, spoken
from yardsort.yards import Yard

BOUNDED = ("s1", "q3", "d2", "i3", "o3", "(s2 q1)", "[s1 s1]", "[q2 d1]", "(i2 [s1 q1])", "[(s1 s1) d2]", "s6", "[s2 s3]")


def shapes_of(yard):
    """All shapes that moves reach from the empty one."""
    found = {((),) * len(yard.kinds)}
    waiting = list(found)
    while waiting:
        for _, there in shape_moves(yard, waiting.pop()):
            if there not in found:
                found.add(there)
                waiting.append(there)
    return sorted(found)[:400]


class CapacityTest(unittest.TestCase):
    def test_ordinary(self):
        for text, expected in (("(s2 q1)", 3), ("s1", 1), ("q6", 6), ("[d1 (i2 o3) s1]", 7),
                               ("(s6 s6 s6 s6 s6 s6 s6 s6)", 48), ("[s2 s2]", 4), ("[s2 s3]", 5)):
            self.assertEqual(capacity(Yard(text)), expected)

    def test_unbounded(self):
        for text in ("s", "q", "(s2 q)", "[s q2]", "(s1 [q1 (d1 o)])"):
            with self.assertRaises(Unbounded):
                capacity(Yard(text))


class ShapesTest(unittest.TestCase):
    def test_empty_shape(self):
        self.assertEqual(empty_shape(Yard("s1")), ((),))
        self.assertEqual(empty_shape(Yard("(s2 [q1 d3])")), ((), (), ()))

    def test_silent(self):
        self.assertEqual(silent(Yard("s1"), ((),)), [((1,),)])
        self.assertEqual(silent(Yard("s1"), ((1,),)), [])
        self.assertEqual(silent(Yard("s3"), ((2, 1),)), [((2, 1, 3),)])
        self.assertEqual(silent(Yard("d2"), ((1,),)), [((1, 2),), ((2, 1),)])
        self.assertEqual(silent(Yard("(s2 q1)"), ((1, 2), ())), [((1,), (2,))])
        self.assertEqual(silent(Yard("(s2 q1)"), ((1,), ())), [((), (1,)), ((1, 2), ())])
        self.assertEqual(silent(Yard("[s1 q1]"), ((), ())), [((), (1,)), ((1,), ())])

    def test_spoken(self):
        self.assertEqual(spoken(Yard("s3"), ((1, 3, 2),), 2), [((1, 2),)])
        self.assertEqual(spoken(Yard("s3"), ((1, 3, 2),), 3), [])
        self.assertEqual(spoken(Yard("s3"), ((3, 2, 1),), 1), [((2, 1),)])
        self.assertEqual(spoken(Yard("q3"), ((1, 3, 2),), 1), [((2, 1),)])
        self.assertEqual(spoken(Yard("d3"), ((1, 3, 2),), 1), [((2, 1),)])
        self.assertEqual(spoken(Yard("(s2 q1)"), ((1, 3), (2,)), 2), [((1, 2), ())])
        self.assertEqual(spoken(Yard("(s2 q1)"), ((1, 3), (2,)), 3), [])

    def test_no_duplicates(self):
        for text in BOUNDED:
            yard = Yard(text)
            for shape in shapes_of(yard)[:60]:
                for found in [silent(yard, shape)] + [spoken(yard, shape, letter) for letter in range(1, 7)]:
                    self.assertEqual(found, sorted(set(found)))
        self.assertEqual(silent(Yard("d1"), ((),)), [((1,),)])
        self.assertEqual(spoken(Yard("d1"), ((1,),), 1), [((),)])

    def test_letters_that_no_wagon_has(self):
        for letter in (0, -1, 3, 10 ** 40):
            self.assertEqual(spoken(Yard("d2"), ((1, 2),), letter), [])
            self.assertEqual(spoken(Yard("d2"), ((),), letter), [])

    def test_all_shapes_against_the_definition(self):
        for text in BOUNDED:
            yard = Yard(text)
            for shape in shapes_of(yard):
                steps = shape_moves(yard, shape)
                self.assertEqual(silent(yard, shape), sorted({there for letter, there in steps if letter is None}))
                for letter in range(1, 5):
                    expected = sorted({there for other, there in steps if other == letter})
                    self.assertEqual(spoken(yard, shape, letter), expected)
                    for there in expected:
                        ranks = sorted(rank for track in there for rank in track)
                        self.assertEqual(ranks, list(range(1, len(ranks) + 1)))


class ClosedSetTest(unittest.TestCase):
    def test_ordinary(self):
        self.assertEqual(closed_set(Yard("s1"), [((),)]), [((),), ((1,),)])
        self.assertEqual(closed_set(Yard("s1"), [((1,),)]), [((1,),)])
        self.assertEqual(closed_set(Yard("s1"), []), [])
        self.assertEqual(closed_set(Yard("d2"), [((),)]), [((),), ((1,),), ((1, 2),), ((2, 1),)])
        self.assertEqual(closed_set(Yard("s1"), [((1,),), ((),), ((1,),), ((),)]), [((),), ((1,),)])

    def test_against_the_definition(self):
        for text in BOUNDED:
            yard = Yard(text)
            shapes = shapes_of(yard)
            for some in ([shapes[0]], shapes[-3:], shapes[1::7][:4]):
                self.assertEqual(closed_set(yard, some), sorted(closed(yard, some)))

    def test_it_is_closed(self):
        yard = Yard("[(s1 q2) d2]")
        found = closed_set(yard, [empty_shape(yard)])
        for shape in found:
            self.assertTrue(all(there in found for there in silent(yard, shape)))
        self.assertEqual(closed_set(yard, found), found)

    def test_arguments_stay_and_results_are_new(self):
        shapes = [((1,),), ((),)]
        closed_set(Yard("s1"), shapes).append(7)
        self.assertEqual(shapes, [((1,),), ((),)])
        self.assertEqual(closed_set(Yard("s1"), shapes), [((),), ((1,),)])


if __name__ == "__main__":
    unittest.main()
