import random
import unittest
from unittest import mock

from oracles import first_way, removed, rows_up_to, rows_with
from yardsort.basis import basis_machine
from yardsort.desk import Desk
from yardsort.language import machine_of
from yardsort.machines import is_machine
from yardsort.rank import count_rows
from yardsort.yards import Yard

START = ("yard s s2", "yard t [s1 (q1 i1)]", "yard u s", "row r 3 1 2", "row p 2 1", "row e", "row l 2 3 1", "machine m s",
         "basis b s")
LONG = "row {} " + " ".join(map(str, range(1, 61)))

# The letters of a form: N a new name, A anything, Y a yard, R a row, M a machine, X a number.
TABLE = {
    "row n 2 3 1": ("NXXX", "ok", [2, 3, 1]),
    "drop r": ("A", "ok", None),
    "show s": ("A", "s2", None),
    "code r": ("R", "2 2 1", None),
    "tree r": ("R", "(- 1 (+ 1 1))", None),
    "inverse n l": ("NR", "ok", [3, 1, 2]),
    "reverse n r": ("NR", "ok", [2, 1, 3]),
    "complement n r": ("NR", "ok", [1, 3, 2]),
    "turn n r": ("NR", "ok", [3, 1, 2]),
    "sum n p r": ("NRR", "ok", [2, 1, 5, 3, 4]),
    "skew n p r": ("NRR", "ok", [5, 4, 3, 1, 2]),
    "without n r 2": ("NRX", "ok", [2, 1]),
    "find r p": ("RR", "0 1", None),
    "other n t": ("NY", "ok", "[s1 (o1 q1)]"),
    "solve s p": ("YR", "-1,0,0,1 -1,0,0,1 0,1,-1,0 0,1,-1,0", None),
    "takes s r": ("YR", "yes", None),
    "machine n s": ("NY", "2", machine_of("s2")),
    "basis n s": ("NY", str(len(basis_machine("s2")[1])), basis_machine("s2")),
    "accepts m r": ("MR", "yes", None),
    "compare s t": ("YY", "fewer", None),
    "difference s t": ("YY", "second 2 3 1", None),
    "least s": ("Y", "2 3 1 / 3 2 1", None),
    "isleast s l": ("YR", "yes", None),
    "core s l": ("YR", "1 2 3", None),
    "count m 3": ("MX", "4", None),
    "kind m": ("M", "fast 0", None),
    "rows s 3": ("YX", "4", None),
    "place s r": ("YR", "3", None),
    "at n s 3 1": ("NYXX", "ok", [1, 3, 2]),
    "behind n s p": ("NYR", "none", None),
}
KINDS = {"Y": "stu", "R": "rpel", "M": "mb"}


def desk_with(*lines):
    desk = Desk()
    for line in START + lines:
        desk.answer(line)
    return desk


def image(desk):
    return {name: desk.thing(name) for name in desk.names()}


class DeskTest(unittest.TestCase):
    def told(self, line, answer, *lines):
        """Check an answer, and that the line changes nothing."""
        desk = desk_with(*lines)
        before = image(desk)
        self.assertEqual(desk.answer(line), answer, line)
        self.assertEqual(image(desk), before, line)

    def put(self, line, answer, name, thing, *lines):
        """Check an answer, and that the line puts a thing under a name and changes nothing else."""
        desk = desk_with(*lines)
        before = image(desk)
        self.assertEqual(desk.answer(line), answer, line)
        self.assertEqual(image(desk), {**before, name: thing}, line)


class TableTest(DeskTest):
    def test_right_words(self):
        for line, (form, answer, thing) in TABLE.items():
            if thing is not None:
                self.put(line, answer, "n", thing)
            elif line != "drop r":
                self.told(line, answer)
        desk = desk_with()
        self.assertEqual(desk.answer("drop r"), "ok")
        self.assertEqual(desk.names(), sorted(set("stupelmb")))

    def test_a_name_takes_another_thing(self):
        for line, (form, answer, thing) in TABLE.items():
            if thing is not None:
                for old in ("yard n q", "row n 1", "machine n u", "machine n s"):
                    self.put(line, answer, "n", thing, old)

    def test_too_few_words(self):
        for line, (form, _, _) in TABLE.items():
            words = line.split(" ")
            for count in range(1, len(words)):
                if words[0] != "row" or count == 1:
                    self.told(" ".join(words[:count]), "bad")
        for line in ("yard", "yard "):
            self.told(line, "bad")

    def test_too_many_words(self):
        for line, (form, _, _) in TABLE.items():
            if not line.startswith("row"):
                for more in ("1", "r", "s", "m", "nothing", "A"):
                    self.told(f"{line} {more}", "bad")

    def test_words_that_are_no_names(self):
        for line, (form, _, _) in TABLE.items():
            words = line.split(" ")
            for at, sign in enumerate(form):
                if sign in "NAYRM":
                    for word in ("A", "r1", "1", "a" * 13, "rR", "-", "r-", "("):
                        wrong = words[:at + 1] + [word] + words[at + 2:]
                        self.told(" ".join(wrong), "bad")
        self.told("yard A s", "bad")
        self.told("yard " + "a" * 13 + " s", "bad")

    def test_words_that_are_no_numbers(self):
        for line, (form, _, _) in TABLE.items():
            words = line.split(" ")
            for at, sign in enumerate(form):
                if sign == "X":
                    for word in ("00", "01", "100", "-1", "+1", "x", "1.0", "9" * 99):
                        wrong = words[:at + 1] + [word] + words[at + 2:]
                        self.told(" ".join(wrong), "bad")

    def test_names_that_have_nothing(self):
        for line, (form, _, _) in TABLE.items():
            words = line.split(" ")
            for at, sign in enumerate(form):
                if sign in "AYRM":
                    for word in ("nothing", "abcdefghijkl"):
                        self.told(" ".join(words[:at + 1] + [word] + words[at + 2:]), f"unknown {word}")

    def test_names_of_another_kind(self):
        for line, (form, _, _) in TABLE.items():
            words = line.split(" ")
            for at, sign in enumerate(form):
                if sign in "YRM":
                    for word in "".join(names for kind, names in KINDS.items() if kind != sign):
                        self.told(" ".join(words[:at + 1] + [word] + words[at + 2:]), f"kind {word}")

    def test_from_left_to_right(self):
        self.told("find nothing none", "unknown nothing")
        self.told("find s nothing", "kind s")
        self.told("find nothing s", "unknown nothing")
        self.told("find r nothing", "unknown nothing")
        self.told("find s m", "kind s")
        self.told("find r m", "kind m")
        self.told("sum n nothing m", "unknown nothing")
        self.told("sum n m nothing", "kind m")
        self.told("compare r nothing", "kind r")
        self.told("compare nothing r", "unknown nothing")
        self.told("accepts s s", "kind s")
        self.told("accepts r m", "kind r")
        self.told("behind n r s", "kind r")
        self.told("at n m 3 0", "kind m")

    def test_bad_comes_first(self):
        self.told("find nothing A", "bad")
        self.told("find s none more", "bad")
        self.told("at n nothing 100 0", "bad")
        self.told("without n m 01", "bad")
        self.told("sum N nothing m", "bad")
        self.told("count nothing x", "bad")

    def test_unknown_comes_before_refused(self):
        self.told("without n nothing 9", "unknown nothing")
        self.told("count s 99", "kind s")
        self.told("at n nothing 99 99", "unknown nothing")
        self.told("takes u nothing", "unknown nothing")

    def test_the_new_name_is_not_looked_up(self):
        self.put("inverse fresh l", "ok", "fresh", [3, 1, 2])
        self.put("inverse s l", "ok", "s", [3, 1, 2])
        self.put("other r s", "ok", "r", "s2")
        self.put("machine r s", "2", "r", machine_of("s2"))

    def test_names_of_twelve_letters(self):
        self.put("row abcdefghijkl 1", "ok", "abcdefghijkl", [1])
        self.told("row abcdefghijklm 1", "bad")


class MalformedTest(DeskTest):
    def test_lines(self):
        for line in ("", " ", "  ", " show s", "show s ", "show  s", "show\ts", "show s\n", "sh%w s", "show \xe4", "show s%", "\n",
                     "yard", "yard ", "yard  ", "yard  n s", "yard n%", "yard n% s", " yard n s", "row n  1", "row n 1 "):
            self.told(line, "bad")

    def test_commands_that_are_not_in_the_table(self):
        for line in ("x", "Show s", "shows s", "sho s", "yards n s", "quit", "help s", "row2 n 1", "is_least s l", "solves s p",
                     "!", "names", "1 2", "N", "none"):
            self.told(line, "bad")


class YardTest(DeskTest):
    def test_texts(self):
        self.put("yard n s", "ok", "n", "s")
        self.put("yard n ([s2 q] o3)", "ok", "n", "([s2 q] o3)")
        self.put("yard s q", "ok", "s", "q")
        for text in ("", " ", " s", "s ", "(s)", "s7", "(s  q)", "(s q", "ss", "%", "s%", "s\n", "\n", "(s\tq)", "\xe4", "s\0", "S",
                     "[s s s s s s s s s]", "n s"):
            self.told(f"yard n {text}", "refused")
            self.told(f"yard s {text}", "refused")
        self.told("yard n", "refused")
        self.told("yard s", "refused")

    def test_show(self):
        self.told("show t", "[s1 (q1 i1)]")
        self.told("show r", "3 1 2")
        self.told("show e", "empty")
        self.told("show m", "2")
        self.told("show b", str(len(basis_machine("s2")[1])))
        self.told("show v", "6", "yard v [s s s s s s s s]", "yard w s3", "basis v w")

    def test_other(self):
        self.put("other n s", "ok", "n", "s2")
        self.put("other t t", "ok", "t", "[s1 (o1 q1)]")

    def test_solve(self):
        self.told("solve u l", "no")
        self.told("solve u e", "empty")
        self.told("solve s e", "empty")
        self.told("solve t p", "-1,0,0,1 -1,0,1,1 1,0,2,1 2,0,-1,0 0,1,-1,0")
        self.told("solve w big", "refused", "yard w [s s s]", "row big 12 11 10 9 8 7 6 5 4 3 2 1")
        self.told("solve u o", "-1,0,0,1 0,1,-1,0", "row o 1")

    def test_takes(self):
        self.told("takes s l", "no")
        self.told("takes s e", "yes")
        self.told("takes u l", "refused")
        self.told("takes v l", "refused", "yard v s5")
        self.told("takes v l", "no", "yard v s4")

    def test_machines(self):
        self.put("machine m t", str(len(machine_of("[s1 (q1 i1)]")[1])), "m", machine_of("[s1 (q1 i1)]"))
        self.put("basis m s", str(len(basis_machine("s2")[1])), "m", basis_machine("s2"))
        self.told("machine n u", "refused")
        self.told("machine m u", "refused")
        self.told("machine n v", "refused", "yard v s5")
        self.told("basis n v", "refused", "yard v s4")
        self.told("basis m u", "refused")

    def test_compare(self):
        self.told("compare s s", "same")
        self.told("compare t s", "more")
        self.told("compare v w", "apart", "yard v s3", "yard w [q2 q1]")
        self.told("compare u s", "refused")
        self.told("compare s u", "refused")
        self.told("compare s v", "refused", "yard v s5")

    def test_difference(self):
        self.told("difference s s", "no")
        self.told("difference v w", "no", "yard v s1", "yard w q3")
        self.told("difference v w", "second 2 1", "yard v s1", "yard w s2")
        self.told("difference w v", "first 2 1", "yard v s1", "yard w s2")
        self.told("difference s u", "refused")

    def test_least(self):
        self.told("least v", "2 1", "yard v s1")
        self.told("least u", "refused")
        self.told("least v", "refused", "yard v s4")
        # No yard that is small enough has an infinite basis, or none.
        for rows, answer in ((None, "endless"), ([], "empty")):
            with mock.patch("yardsort.desk.whole_basis", return_value=rows):
                self.told("least s", answer)
        self.told("isleast s r", "no")
        self.told("isleast s e", "no")
        self.told("isleast u r", "refused")
        self.told("core s r", "no")
        self.told("core s e", "no")
        self.told("core u r", "refused")

    def test_rows_by_number(self):
        self.told("rows s 0", "1")
        self.told("rows s 60", str(count_rows("s2", 60)))
        self.told("rows s 61", "refused")
        self.told("rows u 3", "refused")
        self.told("place s e", "0")
        self.told("place s l", "refused")
        self.told("place u r", "refused")
        self.put("at n s 3 3", "ok", "n", [3, 1, 2])
        self.put("at s s 0 0", "ok", "s", [])
        self.told("at n s 3 4", "refused")
        self.told("at n s 61 0", "refused")
        self.told("at s u 1 0", "refused")

    def test_behind(self):
        self.put("behind n s o", "ok", "n", [3, 1, 2], "row o 2 1 3")
        self.put("behind s s o", "ok", "s", [3, 1, 2], "row o 2 1 3")
        self.told("behind n s r", "none")
        self.told("behind r s r", "none")
        self.told("behind r s e", "none")
        self.told("behind r u e", "refused")


class RowTest(DeskTest):
    def test_rows(self):
        self.put("row n", "ok", "n", [])
        self.put("row s", "ok", "s", [])
        self.put("row n 1", "ok", "n", [1])
        self.put(LONG.format("n"), "ok", "n", list(range(1, 61)))
        for rest in ("0", "2", "1 1", "1 3", "99", "2 3", "0 1"):
            self.told(f"row n {rest}", "refused")
            self.told(f"row r {rest}", "refused")
        self.told(LONG.format("n") + " 61", "refused")
        for rest in ("A", "1 A", "1 02", "100", "-1", "1 2 r", "r"):
            self.told(f"row n {rest}", "bad")

    def test_code_and_tree(self):
        self.told("code e", "empty")
        self.told("code l", "3 1 1")
        self.told("tree e", "refused")
        self.told("tree o", "1", "row o 1")
        self.told("tree o", "(2 4 1 3: 1 (+ 1 1) 1 (- 1 1))", "row o 2 5 6 1 4 3")

    def test_a_row_under_its_own_name(self):
        self.put("inverse r r", "ok", "r", [2, 3, 1])
        self.put("reverse r r", "ok", "r", [2, 1, 3])
        self.put("complement r r", "ok", "r", [1, 3, 2])
        self.put("turn r r", "ok", "r", [3, 1, 2])
        self.put("turn o o", "ok", "o", [2, 1, 3], "row o 1 3 2")
        self.put("sum r r r", "ok", "r", [3, 1, 2, 6, 4, 5])
        self.put("skew p r p", "ok", "p", [5, 3, 4, 2, 1])
        self.put("without r r 1", "ok", "r", [2, 1])

    def test_the_empty_row(self):
        for command in ("inverse", "reverse", "complement", "turn"):
            self.put(f"{command} n e", "ok", "n", [])
        self.put("sum n e e", "ok", "n", [])
        self.put("skew n e r", "ok", "n", [3, 1, 2])
        self.told("without n e 0", "refused")
        self.told("without n e 1", "refused")

    def test_sums(self):
        self.told("sum n x o", "refused", LONG.format("x"), "row o 1")
        self.told("skew x o x", "refused", LONG.format("x"), "row o 1")
        self.put("sum n x e", "ok", "n", list(range(1, 61)), LONG.format("x"))
        self.told("without r r 0", "refused")
        self.told("without r r 4", "refused")
        self.told("without n r 99", "refused")

    def test_find(self):
        self.told("find r l", "no")
        self.told("find p r", "no")
        self.told("find r e", "empty")
        self.told("find e e", "empty")
        self.told("find e p", "no")
        self.told("find r o", "0", "row o 1")
        self.told("find x y", "refused", LONG.format("x"), "row y 1 2 3 4 5 6 7")
        self.told("find x y", "0 1 2 3 4 5", LONG.format("x"), "row y 1 2 3 4 5 6")

    def test_machines_and_rows(self):
        self.told("accepts m l", "no")
        self.told("accepts b l", "yes")
        self.told("accepts b r", "no")
        self.told("accepts m e", "yes")
        self.told("count m 0", "1")
        self.told("count m 60", "576460752303423488")
        self.told("count m 61", "refused")
        self.told("count b 3", "2")
        self.told("kind b", "finite 0")
        self.told("kind n", "slow 0", "yard v s1", "machine n v")


class DropTest(DeskTest):
    def test_anything(self):
        for name in "strpelmb":
            desk = desk_with()
            self.assertEqual(desk.answer(f"drop {name}"), "ok")
            self.assertNotIn(name, desk.names())
            self.assertIsNone(desk.thing(name))
            self.assertEqual(desk.answer(f"drop {name}"), f"unknown {name}")
            self.assertEqual(desk.answer(f"show {name}"), f"unknown {name}")

    def test_it_can_be_put_again(self):
        desk = desk_with("drop r")
        self.assertEqual(desk.answer("row r 1"), "ok")
        self.assertEqual(desk.answer("show r"), "1")


class ThingsTest(DeskTest):
    def test_a_new_desk(self):
        desk = Desk()
        self.assertEqual((desk.names(), desk.thing("a")), ([], None))
        self.assertEqual(desk.answer("show a"), "unknown a")

    def test_names_and_things(self):
        desk = desk_with()
        self.assertEqual(desk.names(), ["b", "e", "l", "m", "p", "r", "s", "t", "u"])
        self.assertEqual(desk.thing("s"), "s2")
        self.assertEqual(desk.thing("r"), [3, 1, 2])
        self.assertEqual(desk.thing("e"), [])
        self.assertTrue(is_machine(desk.thing("m")))
        self.assertIsInstance(desk.thing("m"), tuple)
        for name in ("", "A", "nothing", "a" * 13, " "):
            self.assertIsNone(desk.thing(name))

    def test_results_are_new_lists(self):
        desk = desk_with()
        desk.thing("r").append(4)
        desk.names().clear()
        self.assertEqual(desk.thing("r"), [3, 1, 2])
        self.assertEqual(len(desk.names()), 9)
        self.assertIsNot(desk.thing("e"), desk.thing("e"))

    def test_desks_share_nothing(self):
        one, other = Desk(), Desk()
        one.answer("row a 1")
        self.assertEqual(other.names(), [])
        third = one.copied()
        third.answer("row a 2 1")
        third.answer("row b 1")
        self.assertEqual((one.thing("a"), one.names(), third.names()), ([1], ["a"], ["a", "b"]))


class LinesTest(DeskTest):
    def test_answers(self):
        lines = list(START) + ["show s", "what", "show x", "show  s", "drop s", "show s"]
        copy = list(lines)
        self.assertEqual(Desk().answers(lines), ["ok"] * 7 + ["2", "4", "s2", "bad", "unknown x", "bad", "ok", "unknown s"])
        self.assertEqual(lines, copy)
        self.assertEqual(Desk().answers([]), [])

    def test_first_answers_do_not_depend_on_the_lines_behind(self):
        source = random.Random(1)
        pool = list(TABLE) + list(START) + ["show nothing", "", "yard r s", "row s 1", "without r r 2", "turn l l", "drop s"]
        for _ in range(20):
            lines = [source.choice(pool) for _ in range(25)]
            whole = Desk().answers(lines)
            for length in (0, 1, 7, 24):
                self.assertEqual(Desk().answers(lines[:length]), whole[:length])
            desk = Desk()
            self.assertEqual([desk.answer(line) for line in lines], whole)

    def test_a_line_that_fails_changes_nothing(self):
        source = random.Random(2)
        pool = list(TABLE) + list(START) + ["row r 1 1", "at s s 9 99", "sum s s r", "without p p 2", "tree e", "yard u (s)"]
        desk = Desk()
        for _ in range(400):
            line = source.choice(pool)
            before = image(desk)
            answer = desk.answer(line)
            word = answer.split(" ")[0]
            if word in ("bad", "unknown", "kind", "refused", "none"):
                self.assertEqual(image(desk), before)


class AgreementTest(unittest.TestCase):
    def test_small_cases(self):
        words = {True: "yes", False: "no"}
        for text in ("s1", "s2", "d2", "s3", "i3", "(s1 q1)", "[s1 q2]", "(s2 i1)", "[q1 q1 q1]", "(q1 [s1 s1])"):
            yard, desk = Yard(text), Desk()
            desk.answers([f"yard y {text}", "machine m y", "basis b y"])
            sorted_rows = {}
            for row in rows_up_to(4) + rows_with(5)[::12]:
                desk.answer("row r " + " ".join(map(str, row)) if row else "row r")
                sorts = first_way(yard, row) is not None
                sorted_rows[tuple(row)] = sorts
                shorter = [tuple(removed(row, wagon)) for wagon in row]
                least = not sorts and all(sorted_rows[other] for other in shorter)
                answers = desk.answers(["takes y r", "accepts m r", "isleast y r", "accepts b r"])
                self.assertEqual(answers, [words[sorts]] * 2 + [words[least]] * 2, (text, row))
                self.assertEqual(desk.answer("solve y r") == "no", not sorts)


if __name__ == "__main__":
    unittest.main()
