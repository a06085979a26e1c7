import unittest
from itertools import product

from oracles import GIVES, TAKES, fault_of
from yardsort.errors import NotYard
from yardsort.yards import Yard, turned, turned_numbers

# Each yard with its links.
LINKS = {
    "s": [(-1, 0), (0, -1)],
    "d6": [(-1, 0), (0, -1)],
    "(s2 q)": [(-1, 0), (0, 1), (1, -1)],
    "[s q]": [(-1, 0), (-1, 1), (0, -1), (1, -1)],
    "(s q i)": [(-1, 0), (0, 1), (1, 2), (2, -1)],
    "(i [s q2] o3)": [(-1, 0), (0, 1), (0, 2), (1, 3), (2, 3), (3, -1)],
    "([s q] [d i o])": [(-1, 0), (-1, 1), (0, 2), (0, 3), (0, 4), (1, 2), (1, 3), (1, 4), (2, -1), (3, -1), (4, -1)],
    "[(s q) (d i)]": [(-1, 0), (-1, 2), (0, 1), (1, -1), (2, 3), (3, -1)],
    "((s q) (d i))": [(-1, 0), (0, 1), (1, 2), (2, 3), (3, -1)],
    "[[s q] d]": [(-1, 0), (-1, 1), (-1, 2), (0, -1), (1, -1), (2, -1)],
    "([(s q) d] o)": [(-1, 0), (-1, 2), (0, 1), (1, 3), (2, 3), (3, -1)],
    "(s ([q d] i))": [(-1, 0), (0, 1), (0, 2), (1, 3), (2, 3), (3, -1)],
    "([s (q d)] [(i o) s])": [(-1, 0), (-1, 1), (0, 3), (0, 5), (1, 2), (2, 3), (2, 5), (3, 4), (4, -1), (5, -1)],
}

# Each yard with its turned text and its turned numbers.
TURNED = {
    "s": ("s", [0]),
    "q3": ("q3", [0]),
    "d": ("d", [0]),
    "i": ("o", [0]),
    "o6": ("i6", [0]),
    "(i [s q2] o3)": ("(i3 [s q2] o)", [3, 1, 2, 0]),
    "[i o2 (s q1)]": ("[o i2 (q1 s)]", [0, 1, 3, 2]),
    "(s1 s2 s3)": ("(s3 s2 s1)", [2, 1, 0]),
    "((s q) i)": ("(o (q s))", [2, 1, 0]),
    "([s1 i (q o4)] d)": ("(d [s1 o (i4 q)])", [1, 2, 4, 3, 0]),
    "[(s1 s2) (s3 s4)]": ("[(s2 s1) (s4 s3)]", [1, 0, 3, 2]),
}

FAULTS = {
    "": 0, " ": 0, "x": 0, "S": 0, "1": 0, ")": 0, "]": 0, "\n": 0, "\u0455": 0,
    "(s)": 2, "[q]": 2, "s7": 1, "s0": 1, "s9": 1, "s12": 2, "s1 ": 2, "s ": 1, " s": 0, "ss": 1, "s q": 1, "s\u0661": 1,
    "(s  q)": 3, "( s q)": 1, "(s q )": 5, "(s q": 4, "(s q ": 5, "(": 1, "[": 1, "()": 1, "[]": 1, "(s": 2, "(s ": 3,
    "(s q]": 4, "[s q)": 4, "(s q)x": 5, "(s q) ": 5, "(s q)1": 5, "(s q)(s q)": 5, "(s,q)": 2, "(s\tq)": 2,
    "(s q7)": 4, "(s2q)": 3, "(s (q)": 5, "(s (q))": 5, "(s [q d)": 7, "(s [q d]": 8, "((s q) d": 8, "[s (q d]": 7,
    "(s q))": 5, "s)": 1, "s1]": 2, "(s x)": 3, "x" * 5000: 0, "s" * 5000: 1, "(" * 5000: 8,
}

EIGHT = "s s s s s s s s"


class FieldsTest(unittest.TestCase):
    def test_devices_and_bounds(self):
        yard = Yard("([s1 q2 d3] (i4 o5) s6 q)")
        self.assertEqual(yard.text, "([s1 q2 d3] (i4 o5) s6 q)")
        self.assertEqual(yard.kinds, ["s", "q", "d", "i", "o", "s", "q"])
        self.assertEqual(yard.bounds, [1, 2, 3, 4, 5, 6, None])
        self.assertEqual(len(yard), 7)

    def test_single_devices(self):
        for letter in "sqdio":
            for bound in (None, 1, 2, 3, 4, 5, 6):
                text = letter if bound is None else f"{letter}{bound}"
                yard = Yard(text)
                self.assertEqual((yard.text, yard.kinds, yard.bounds, len(yard)), (text, [letter], [bound], 1))
                self.assertEqual(yard.links, [(-1, 0), (0, -1)])

    def test_links(self):
        for text, links in LINKS.items():
            self.assertEqual(Yard(text).links, links, text)

    def test_links_of_many_devices(self):
        yard = Yard("([s s s s] [q q q q])")
        expected = [(-1, k) for k in range(4)] + [(k, m) for k in range(4) for m in range(4, 8)]
        self.assertEqual(yard.links, expected + [(k, -1) for k in range(4, 8)])

    def test_is_bounded(self):
        for text, expected in (("s1", True), ("s", False), ("(s1 q2)", True), ("(s1 q)", False), ("[q s6]", False)):
            self.assertIs(Yard(text).is_bounded(), expected)


class EndsTest(unittest.TestCase):
    def test_each_device(self):
        yard = Yard("[s q d i o]")
        self.assertEqual([yard.ins(device) for device in range(5)], [[1], [1], [0, 1], [1], [0, 1]])
        self.assertEqual([yard.outs(device) for device in range(5)], [[1], [0], [0, 1], [0, 1], [1]])

    def test_bounds_do_not_matter(self):
        for letter in "sqdio":
            self.assertEqual(Yard(letter + "2").ins(0), list(TAKES[letter]))
            self.assertEqual(Yard(letter + "2").outs(0), list(GIVES[letter]))

    def test_lists_are_new(self):
        yard = Yard("(d d)")
        for function in (yard.ins, yard.outs):
            function(0).append(7)
            self.assertEqual(function(0), [0, 1])
            self.assertEqual(function(1), [0, 1])
        yard.kinds.append("s")
        yard.links.append((3, 3))
        self.assertEqual(Yard("(d d)").kinds, ["d", "d"])
        self.assertEqual(Yard("(d d)").links, [(-1, 0), (0, 1), (1, -1)])


class RoomTest(unittest.TestCase):
    def test_bounds(self):
        yard = Yard("(s1 q6 d)")
        self.assertEqual([yard.room(0, count) for count in (0, 1, 2)], [True, False, False])
        self.assertEqual([yard.room(1, count) for count in (0, 5, 6, 7)], [True, True, False, False])
        self.assertEqual([yard.room(2, count) for count in (0, 60, 10 ** 5000)], [True, True, True])
        self.assertIs(yard.room(0, 0), True)
        self.assertIs(yard.room(0, 1), False)
        self.assertIs(yard.room(2, 9), True)


class FaultTest(unittest.TestCase):
    def check(self, text, at):
        for function in (Yard, turned, turned_numbers):
            with self.assertRaises(NotYard, msg=repr(text[:40])) as caught:
                function(text)
            self.assertEqual(caught.exception.at, at, repr(text[:40]))

    def test_faults(self):
        for text, at in FAULTS.items():
            self.check(text, at)

    def test_all_short_texts(self):
        for size in range(6):
            for signs in product("s17( )[]", repeat=size):
                text = "".join(signs)
                at = fault_of(text)
                if at is None:
                    self.assertEqual(Yard(text).text, text)
                else:
                    with self.assertRaises(NotYard) as caught:
                        Yard(text)
                    self.assertEqual(caught.exception.at, at, repr(text))

    def test_texts_with_one_character_changed(self):
        for text in list(LINKS) + list(TURNED):
            for at in range(len(text) + 1):
                for sign in ("", " ", "s", "(", ")", "[", "]", "3", "0", "z"):
                    for changed in (text[:at] + sign + text[at:], text[:at] + sign + text[at + 1:]):
                        fault = fault_of(changed)
                        if fault is None:
                            self.assertEqual(Yard(changed).text, changed)
                        else:
                            self.check(changed, fault)

    def test_eight_devices_and_nine(self):
        for text in (f"({EIGHT})", f"[{EIGHT}]", "([s s s s] [s s s s])", "((s s) (s s) (s s) (s s))"):
            self.assertEqual(len(Yard(text)), 8)
        self.check(f"({EIGHT} s)", 17)
        self.check(f"[{EIGHT} q1]", 17)
        self.check(f"({EIGHT} ", 17)
        self.check(f"({EIGHT}", 16)
        self.check("([s s s s] [s s s s] d)", 21)
        self.check("([s1 s1 s1 s1] [s1 s1 s1 s1 o1])", 28)

    def test_eight_open_brackets_and_nine(self):
        self.check("(" * 8, 8)
        self.check("(" * 9, 8)
        self.check("[" * 9, 8)
        self.check("([([([([s", 9)
        self.check("([([([([(", 8)
        self.check("((((((((s s) s) s) s) s) s) s) s)", 31)
        self.assertEqual(len(Yard("(((((((s s) s) s) s) s) s) s)")), 8)

    def test_closed_brackets_are_not_open(self):
        self.assertEqual(len(Yard("([s s] [s s] [s s] [s s])")), 8)
        self.check("((s s) ((s s) ((((((", 20)
        self.check("((s s) ((s s) (((((((", 20)


class TurnedTest(unittest.TestCase):
    def test_texts_and_numbers(self):
        for text, (other, numbers) in TURNED.items():
            self.assertEqual(turned(text), other)
            self.assertEqual(turned_numbers(text), numbers)

    def test_turned_twice(self):
        for text in list(LINKS) + list(TURNED):
            self.assertEqual(turned(turned(text)), text)
            numbers = turned_numbers(text)
            back = turned_numbers(turned(text))
            self.assertEqual([back[number] for number in numbers], list(range(len(numbers))))

    def test_devices_and_links_of_the_turned_yard(self):
        for text in list(LINKS) + list(TURNED):
            yard, other, numbers = Yard(text), Yard(turned(text)), turned_numbers(text)
            for device, number in enumerate(numbers):
                self.assertEqual(other.kinds[number], {"i": "o", "o": "i"}.get(yard.kinds[device], yard.kinds[device]))
                self.assertEqual(other.bounds[number], yard.bounds[device])
            places = numbers + [-1]
            self.assertEqual(other.links, sorted((places[target], places[source]) for source, target in yard.links))

    def test_lists_are_new(self):
        turned_numbers("(s q)").append(7)
        self.assertEqual(turned_numbers("(s q)"), [1, 0])


if __name__ == "__main__":
    unittest.main()
