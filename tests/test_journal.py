import random
import unittest

from yardsort.desk import Desk
from yardsort.errors import BadJournal, OpenTrial
from yardsort.journal import Journal, attempt, resume

LINES = ["yard a s2", "row r 2 3 1", "takes a r", "what is this", "", "row r 1 1", "show x", "machine m a", "count m 3", "drop r",
         "show r", "row r 3 1 2", "inverse r r", "show r", " show r", "yard b (s  q)", "least a", "yard c ", "yard a s1", "show a"]
SIGNS = "".join(map(chr, range(32, 127))).replace("%", "")
OTHERS = "%\n\t\r\0\x0b\x0c\x1c\x1f\x7f\x80\x85\xa0\xe4\u2028\u2029\U0001f682"


def journal_of(lines):
    journal = Journal()
    for line in lines:
        journal.answer(line)
    return journal


def record_of(lines):
    """The record of lines, told by a desk."""
    answers = Desk().answers(lines)
    return "".join(f"> {line}\n< {answer}\n" for line, answer in zip(lines, answers))


def slow_fault(text):
    """The index of the first wrong row of a record that may have been cut off, or None."""
    rows = text.split("\n")
    rows.pop()
    asked = []
    for at, row in enumerate(rows):
        if row[:2] != ("> " if at % 2 == 0 else "< "):
            return at
        if at % 2 == 0:
            asked.append(row[2:])
            if any(sign not in SIGNS for sign in row[2:]):
                return at
        elif row[2:] != Desk().answers(asked)[-1]:
            return at
    return None


class RecordTest(unittest.TestCase):
    def test_a_new_journal(self):
        journal = Journal()
        self.assertEqual((journal.record(), journal.lines()), ("", []))

    def test_ordinary(self):
        journal = Journal()
        self.assertEqual(journal.answer("row r 2 1"), "ok")
        self.assertEqual(journal.answer("code r"), "2 1")
        self.assertEqual(journal.answer("code x"), "unknown x")
        self.assertEqual(journal.record(), "> row r 2 1\n< ok\n> code r\n< 2 1\n> code x\n< unknown x\n")
        self.assertEqual(journal.lines(), ["row r 2 1", "code r", "code x"])

    def test_it_answers_as_a_desk_does(self):
        journal, desk = Journal(), Desk()
        for at, line in enumerate(LINES):
            self.assertEqual(journal.answer(line), desk.answer(line))
            self.assertEqual(journal.lines(), LINES[:at + 1])
            self.assertEqual(journal.record(), record_of(LINES[:at + 1]))

    def test_lines_that_are_answered_bad_are_recorded(self):
        journal = Journal()
        for line in ("", " ", "no", "show", " show a", "yard"):
            self.assertEqual(journal.answer(line), "bad")
        self.assertEqual(journal.record(), "> \n< bad\n>  \n< bad\n> no\n< bad\n> show\n< bad\n>  show a\n< bad\n> yard\n< bad\n")

    def test_lines_that_cannot_be_recorded(self):
        journal = journal_of(["row r 2 1"])
        before = journal.record()
        for sign in OTHERS:
            for line in (sign, f"yard a s{sign}", f"yard a {sign}", f"show {sign}", f"row r 1{sign}", f"drop r{sign}"):
                self.assertEqual(journal.answer(line), "bad")
                self.assertEqual((journal.record(), journal.lines()), (before, ["row r 2 1"]))
        self.assertEqual(journal.answer("show r"), "2 1")

    def test_every_character_that_can_be_recorded(self):
        journal = Journal()
        for at, sign in enumerate(SIGNS):
            journal.answer(f"yard a {sign}")
            self.assertEqual(len(journal.lines()), at + 1)
        self.assertEqual(resume(journal.record()).record(), journal.record())

    def test_journals_share_nothing(self):
        one, other = Journal(), Journal()
        one.answer("row r 1")
        self.assertEqual((other.record(), other.lines(), other.answer("show r")), ("", [], "unknown r"))

    def test_lines_are_a_new_list(self):
        journal = journal_of(LINES)
        journal.lines().clear()
        self.assertEqual(journal.lines(), LINES)


class ResumeTest(unittest.TestCase):
    def fault(self, text, row):
        with self.assertRaises(BadJournal) as raised:
            resume(text)
        self.assertEqual(raised.exception.row, row, repr(text))

    def test_whole_records(self):
        for count in range(len(LINES) + 1):
            journal = resume(record_of(LINES[:count]))
            self.assertEqual(journal.record(), record_of(LINES[:count]))
            self.assertEqual(journal.lines(), LINES[:count])
            self.assertEqual([journal.answer(line) for line in LINES[count:]], Desk().answers(LINES)[count:])

    def test_cut_off_at_every_place(self):
        text = record_of(LINES)
        answers = Desk().answers(LINES)
        lengths = [len(record_of(LINES[:count])) for count in range(len(LINES) + 1)]
        for at in range(len(text) + 1):
            journal = resume(text[:at])
            count = max(count for count, length in enumerate(lengths) if length <= at)
            self.assertEqual(journal.record(), record_of(LINES[:count]))
            self.assertEqual([journal.answer(line) for line in LINES[count:]], answers[count:])
            self.assertEqual(journal.record(), text)

    def test_what_stands_behind_the_last_newline_is_ignored(self):
        text = record_of(LINES[:2])
        for rest in ("x", "> ", "> row r 1", "< ok", "%", "\t", "\xe4", "> show %", "\r"):
            self.assertEqual(resume(rest).record(), "")
            self.assertEqual(resume(text + rest).record(), text)
            self.assertEqual(resume(text + "> show r\n" + rest).record(), text)
        self.assertEqual(resume("").record(), "")

    def test_a_missing_answer(self):
        text = record_of(LINES[:2])
        journal = resume(text + "> drop r\n")
        self.assertEqual((journal.record(), journal.lines()), (text, LINES[:2]))
        self.assertEqual(journal.answer("show r"), "2 3 1")
        self.assertEqual(resume("> what\n").record(), "")
        self.assertEqual(resume("> \n").record(), "")
        # The row is checked all the same.
        for row in ("< drop r", ">drop r", "", ">", " > drop r", "drop r", "> drop %", "> dr\top r", "> drop\r", "> \xe4", "\xe4> a"):
            self.fault(text + row + "\n", 4)
            self.fault(row + "\n", 0)

    def test_other_answers(self):
        text = "> row r 2 1\n< ok\n> code r\n< 2 1\n"
        self.assertEqual(resume(text).lines(), ["row r 2 1", "code r"])
        for answer in ("ok ", "OK", "", " ok", "bad", "ok\r", "ok%"):
            self.fault(text.replace("ok", answer), 1)
        for answer in ("1 1", "2 1 ", "2  1", "2", "", "refused"):
            self.fault(text[:-4] + answer + "\n", 3)
        self.fault(text + "> code r\n< 1 2\n", 5)
        self.fault("> row r 1 2\n< ok\n> code r\n< 2 1\n", 3)

    def test_beginnings_of_rows(self):
        text = "> row r 2 1\n< ok\n> code r\n< 2 1\n"
        rows = text.split("\n")[:-1]
        for at, row in enumerate(rows):
            for other in (row[1:], row[2:], row[:1] + row[2:], " " + row, ("<" if row[0] == ">" else ">") + row[1:], "",
                          row[:1], row[:1] + "\t" + row[2:]):
                self.fault("\n".join(rows[:at] + [other] + rows[at + 1:]) + "\n", at)
        self.fault("\n", 0)
        self.fault("> row r 1\n\n", 1)
        self.fault("> row r 1\n> show r\n", 1)
        self.fault("< ok\n", 0)

    def test_rows_left_out_or_doubled(self):
        rows = record_of(LINES).split("\n")[:-1]
        for at in range(len(rows)):
            for some in (rows[:at] + rows[at + 1:], rows[:at + 1] + rows[at:]):
                text = "\n".join(some) + "\n"
                row = slow_fault(text)
                if row is None:
                    self.assertEqual(resume(text).record(), "\n".join(some[:len(some) - len(some) % 2] + [""]))
                else:
                    self.fault(text, row)

    def test_lines_that_cannot_be_recorded(self):
        text = record_of(LINES[:2])
        for sign in OTHERS.replace("\n", ""):
            for line in (sign, f"yard a s{sign}", f"yard a {sign}"):
                self.fault(f"{text}> {line}\n< bad\n", 4)
                self.fault(f"{text}> {line}\n< refused\n> show a\n< s2\n", 4)
                self.fault(f"{text}> {line}\n", 4)

    def test_the_first_wrong_row_is_told(self):
        self.fault("> row r 1 1\n< ok\nx\n", 1)
        self.fault("x\n< ok\n> %\n", 0)
        self.fault("> %\nx\n", 0)
        self.fault("> show r\n< unknown r\n> \t\n< ok\n", 2)

    def test_changed_records(self):
        source = random.Random(1)
        text = record_of(LINES[:9])
        seen = {True: 0, False: 0}
        for _ in range(3000):
            signs = list(text)
            for _ in range(source.randint(1, 2)):
                at = source.randrange(len(signs))
                signs[at:at + source.randrange(2)] = source.choice("\n<> ra12%x\t")
            changed = "".join(signs)
            row = slow_fault(changed)
            seen[row is None] += 1
            if row is not None:
                self.fault(changed, row)
            else:
                rows = changed.split("\n")[:-1]
                whole = rows[:len(rows) - len(rows) % 2]
                self.assertEqual(resume(changed).record(), "".join(f"{row}\n" for row in whole))
        self.assertGreater(seen[False], 1000)
        self.assertGreater(seen[True], 50)

    def test_it_goes_on_with_trials(self):
        journal = resume(record_of(LINES))
        with journal as trial:
            trial.answer("drop a")
        self.assertEqual(journal.record(), record_of(LINES))
        self.assertEqual(journal.answer("show a"), "s1")


class TrialTest(unittest.TestCase):
    def setUp(self):
        self.journal = journal_of(["row r 2 1", "yard y s"])
        self.before = self.journal.record()

    def test_taken_back(self):
        journal = self.journal
        with journal as trial:
            self.assertIs(trial, journal)
            self.assertEqual(trial.answer("row r 1"), "ok")
            self.assertEqual(trial.answer("drop y"), "ok")
            self.assertEqual(trial.answer("row new 1 2"), "ok")
            self.assertEqual(trial.answer("show r"), "1")
            self.assertEqual(trial.lines(), ["row r 2 1", "yard y s", "row r 1", "drop y", "row new 1 2", "show r"])
            self.assertEqual(trial.record(), record_of(trial.lines()))
        self.assertEqual(journal.record(), self.before)
        self.assertEqual(journal.lines(), ["row r 2 1", "yard y s"])
        self.assertEqual([journal.answer(line) for line in ("show r", "show y", "show new")], ["2 1", "s", "unknown new"])

    def test_kept(self):
        journal = self.journal
        with journal as trial:
            trial.answer("row r 1")
            trial.keep()
            trial.answer("drop y")
        self.assertEqual(journal.lines(), ["row r 2 1", "yard y s", "row r 1", "drop y"])
        self.assertEqual(journal.record(), record_of(journal.lines()))
        self.assertEqual([journal.answer("show r"), journal.answer("show y")], ["1", "unknown y"])

    def test_kept_twice_and_through_the_journal(self):
        with self.journal:
            self.journal.answer("row r 1")
            self.journal.keep()
            self.journal.keep()
        self.assertEqual(self.journal.answer("show r"), "1")

    def test_each_trial_is_kept_for_itself(self):
        journal = self.journal
        with journal as trial:
            trial.answer("row r 1")
            trial.keep()
        kept = journal.record()
        with journal as trial:
            trial.answer("drop r")
        self.assertEqual(journal.record(), kept)
        self.assertEqual(journal.answer("show r"), "1")
        with journal as trial:
            trial.answer("drop r")
            trial.keep()
        self.assertEqual(journal.answer("show r"), "unknown r")

    def test_an_exception_takes_everything_back(self):
        for keeps in (False, True):
            with self.assertRaises(KeyError):
                with self.journal as trial:
                    trial.answer("row r 1")
                    if keeps:
                        trial.keep()
                    raise KeyError("x")
            self.assertEqual(self.journal.record(), self.before)
            with self.assertRaises(OpenTrial):
                self.journal.keep()
        self.assertEqual(self.journal.answer("show r"), "2 1")

    def test_an_exception_that_does_not_leave_it(self):
        with self.journal as trial:
            try:
                trial.answer("row r 1")
                raise KeyError("x")
            except KeyError:
                trial.keep()
        self.assertEqual(self.journal.answer("show r"), "1")

    def test_left_by_a_return(self):
        def answered(keeps):
            with self.journal as trial:
                if keeps:
                    trial.keep()
                return trial.answer("row r 1")
        self.assertEqual(answered(False), "ok")
        self.assertEqual(self.journal.record(), self.before)
        self.assertEqual(answered(True), "ok")
        self.assertEqual(self.journal.answer("show r"), "1")

    def test_opened_twice(self):
        for keeps in (False, True):
            with self.journal as trial:
                trial.answer("row r 1")
                for _ in range(2):
                    with self.assertRaises(OpenTrial):
                        with self.journal:
                            self.fail("no second trial is opened")
                    with self.assertRaises(OpenTrial):
                        attempt(self.journal, ["drop r"], keep=True)
                self.assertEqual(trial.answer("show r"), "1")
                self.assertEqual(trial.lines(), ["row r 2 1", "yard y s", "row r 1", "show r"])
                if keeps:
                    trial.keep()
            self.assertEqual(self.journal.answer("show r"), "1" if keeps else "2 1")
            if not keeps:
                self.journal = journal_of(["row r 2 1", "yard y s"])

    def test_opened_twice_after_keep(self):
        with self.journal as trial:
            trial.keep()
            trial.answer("row r 1")
            with self.assertRaises(OpenTrial):
                with self.journal:
                    self.fail("no second trial is opened")
        self.assertEqual(self.journal.answer("show r"), "1")

    def test_the_error_of_a_second_trial_may_leave_the_first_one(self):
        with self.assertRaises(OpenTrial):
            with self.journal as trial:
                trial.answer("row r 1")
                trial.keep()
                with self.journal:
                    self.fail("no second trial is opened")
        self.assertEqual(self.journal.record(), self.before)
        with self.journal as trial:
            trial.answer("drop r")

    def test_keep_outside_of_a_trial(self):
        for journal in (Journal(), self.journal, resume(self.before)):
            before = journal.record()
            with self.assertRaises(OpenTrial):
                journal.keep()
            with journal as trial:
                trial.answer("row z 1")
            with self.assertRaises(OpenTrial):
                journal.keep()
            self.assertEqual(journal.record(), before)

    def test_trials_of_different_journals(self):
        other = Journal()
        with self.journal as trial, other as second:
            trial.answer("row r 1")
            second.answer("row r 1 2")
            second.keep()
        self.assertEqual((self.journal.answer("show r"), other.answer("show r")), ("2 1", "1 2"))

    def test_an_empty_trial(self):
        for keeps in (False, True):
            with self.journal as trial:
                if keeps:
                    trial.keep()
            self.assertEqual(self.journal.record(), self.before)


class AttemptTest(unittest.TestCase):
    def test_not_kept(self):
        journal = journal_of(["row r 2 1"])
        before = journal.record()
        lines = ["row r 1", "show r", "%", "show x"]
        for more in ({}, {"keep": False}):
            copy = list(lines)
            answers, text = attempt(journal, lines, **more)
            self.assertEqual(answers, ["ok", "1", "bad", "unknown x"])
            self.assertEqual(text, before + "> row r 1\n< ok\n> show r\n< 1\n> show x\n< unknown x\n")
            self.assertEqual((journal.record(), lines), (before, copy))
        self.assertEqual(journal.answer("show r"), "2 1")
        self.assertIsInstance(attempt(journal, []), tuple)

    def test_kept(self):
        journal = journal_of(["row r 2 1"])
        answers, text = attempt(journal, ["row r 1", "show r"], keep=True)
        self.assertEqual(answers, ["ok", "1"])
        self.assertEqual(text, journal.record())
        self.assertEqual(journal.answer("show r"), "1")

    def test_no_lines(self):
        for keep in (False, True):
            journal = journal_of(["row r 2 1"])
            self.assertEqual(attempt(journal, [], keep=keep), ([], journal.record()))
        self.assertEqual(attempt(Journal(), []), ([], ""))

    def test_keep_is_passed_by_its_name(self):
        with self.assertRaises(TypeError):
            attempt(Journal(), [], True)

    def test_in_an_open_trial(self):
        journal = Journal()
        with journal as trial:
            trial.answer("row r 1")
            with self.assertRaises(OpenTrial):
                attempt(journal, ["drop r"])
            trial.keep()
        self.assertEqual(journal.lines(), ["row r 1"])

    def test_many_trials(self):
        source = random.Random(2)
        journal, kept = Journal(), []
        for _ in range(60):
            lines = [source.choice(LINES) for _ in range(source.randrange(4))]
            keep = source.random() < 0.5
            answers, text = attempt(journal, lines, keep=keep)
            self.assertEqual(answers, Desk().answers(kept + lines)[len(kept):])
            self.assertEqual(text, record_of(kept + lines))
            kept = kept + lines if keep else kept
            self.assertEqual(journal.record(), record_of(kept))


if __name__ == "__main__":
    unittest.main()
