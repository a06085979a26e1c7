import random
import re
import unittest

from yardsort.words import is_name, number_in, words_of

SIGNS = "".join(map(chr, range(33, 127))).replace("%", "")
OTHERS = "%\t\n\r\0\x1f\x7f\x80\xa0\xe4\u2003\u2028\uff11\U0001f682"


def slow_words(line):
    """The words of a line by the form of the whole line."""
    if line[:5] == "yard ":
        found = re.fullmatch("yard ([!-$&-~]+)(?: (.*))?", line, re.DOTALL)
        return ["yard", found[1], found[2] or ""] if found else None
    return line.split(" ") if re.fullmatch("[!-$&-~]+( [!-$&-~]+)*", line) else None


class WordsTest(unittest.TestCase):
    def test_ordinary(self):
        self.assertEqual(words_of("show a"), ["show", "a"])
        self.assertEqual(words_of("row a 3 1 2"), ["row", "a", "3", "1", "2"])
        self.assertEqual(words_of("x"), ["x"])
        self.assertEqual(words_of("no such COMMAND!"), ["no", "such", "COMMAND!"])

    def test_spaces(self):
        for line in ("", " ", "  ", " a", "a ", " a b", "a b ", "a  b", "a   b", "a b  c", "row a 1 ", "row  a", " row a", "row "):
            self.assertIsNone(words_of(line), repr(line))

    def test_every_character(self):
        for sign in SIGNS:
            self.assertEqual(words_of(sign), [sign])
            self.assertEqual(words_of(f"a {sign}b{sign} c"), ["a", f"{sign}b{sign}", "c"])
        for sign in OTHERS:
            for line in (sign, f"a{sign}", f"{sign}a", f"a {sign} b", f"a b{sign}c", f"a b {sign}"):
                self.assertIsNone(words_of(line), repr(line))
        for number in list(range(32)) + [37] + list(range(127, 300)):
            self.assertIsNone(words_of(f"a{chr(number)}b"), number)

    def test_the_command_yard(self):
        cases = {
            "yard": ["yard"],
            "yard a": ["yard", "a", ""],
            "yard a ": ["yard", "a", ""],
            "yard a  ": ["yard", "a", " "],
            "yard a s": ["yard", "a", "s"],
            "yard a (s q)": ["yard", "a", "(s q)"],
            "yard a  s": ["yard", "a", " s"],
            "yard a s ": ["yard", "a", "s "],
            "yard a (s2  q) ": ["yard", "a", "(s2  q) "],
            "yard yard yard": ["yard", "yard", "yard"],
            "yard A7! x": ["yard", "A7!", "x"],
            "yard a % \n\t\0\u2028": ["yard", "a", "% \n\t\0\u2028"],
            "yard ": None, "yard  ": None, "yard  a": None, "yard  a s": None, " yard a s": None, "yard % s": None,
            "yard a%": None, "yard a% s": None, "yard a\t s": None, "yard \n s": None, "yard \xe4 s": None, "yard a\n": None,
        }
        for line, words in cases.items():
            self.assertEqual(words_of(line), words, repr(line))
        for sign in SIGNS + OTHERS + " ":
            self.assertEqual(words_of(f"yard a {sign}"), ["yard", "a", sign])
            self.assertEqual(words_of(f"yard a s{sign}{sign}q"), ["yard", "a", f"s{sign}{sign}q"])
        for sign in OTHERS:
            self.assertIsNone(words_of(f"yard b{sign} s"))

    def test_other_commands_have_no_text(self):
        for line in ("yards a  b", "Yard a  b", "yar a  b", "yard\ta b", "yard% a", "row a  b"):
            self.assertIsNone(words_of(line))
        self.assertEqual(words_of("yards a b"), ["yards", "a", "b"])
        self.assertEqual(words_of("show yard a"), ["show", "yard", "a"])
        self.assertEqual(words_of("YARD a b c"), ["YARD", "a", "b", "c"])

    def test_many_lines(self):
        source = random.Random(1)
        for _ in range(4000):
            line = "".join(source.choice("yard   ab1%\t~!\n") for _ in range(source.randrange(9)))
            line = source.choice(["", "yard", "yard ", "yard a", "row "]) + line
            self.assertEqual(words_of(line), slow_words(line), repr(line))

    def test_words_are_a_new_list(self):
        words = words_of("show a")
        words.append("b")
        self.assertEqual(words_of("show a"), ["show", "a"])


class NamesTest(unittest.TestCase):
    def test_lengths(self):
        for length in range(16):
            self.assertIs(is_name("m" * length), 1 <= length <= 12)

    def test_letters(self):
        for sign in SIGNS + OTHERS + " \xdf\u0131":
            self.assertIs(is_name(sign), sign in "abcdefghijklmnopqrstuvwxyz")
            self.assertIs(is_name(f"a{sign}z"), sign in "abcdefghijklmnopqrstuvwxyz")
        self.assertTrue(is_name("abcdefghijkl"))
        self.assertTrue(is_name("mnopqrstuvwx"))
        self.assertTrue(is_name("yz"))


class NumbersTest(unittest.TestCase):
    def test_all(self):
        for number in range(100):
            self.assertEqual(number_in(str(number)), number)
        self.assertIsInstance(number_in("0"), int)

    def test_other_words(self):
        for word in ("", "00", "01", "09", "007", "100", "101", "999", "-1", "-0", "+1", "1.", "1.0", "1e1", "0x1", "1_0", "a",
                     " 1", "1 ", "1\n", "\uff11", "\u0661", "\xb2", "9" * 5000, "0" * 5000):
            self.assertIsNone(number_in(word), word[:9])


if __name__ == "__main__":
    unittest.main()
