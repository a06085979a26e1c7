"""The journal: it records what a desk is asked and answers."""

from yardsort.desk import Desk
from yardsort.errors import BadJournal, OpenTrial
from yardsort.words import is_sign

ASKED = "> "
ANSWERED = "< "


def _can_be_recorded(line):
    return all([sign == " " or is_sign(sign) for sign in line])


class Journal:
    """A desk of its own, and the record of its lines and answers.

    While a trial is open, the desk and the record of its beginning are kept
    beside those that go on.
    """

    def __init__(self):
        self._desk = Desk()
        self._pairs = []
        self._desk_before = None
        self._pairs_before = None
        self._kept = None

    def answer(self, line):
        """Answer a line, and record it if it can be recorded."""
        if not _can_be_recorded(line):
            return "bad"
        told = self._desk.answer(line)
        self._pairs.append((line, told))
        return told

    def record(self):
        """Return the record."""
        return "".join([f"{ASKED}{line}\n{ANSWERED}{told}\n" for line, told in self._pairs])

    def lines(self):
        """Return the recorded lines."""
        return [line for line, _ in self._pairs]

    def keep(self):
        """Let what is answered in the open trial stay."""
        if self._desk_before is None:
            raise OpenTrial("no trial is open")
        self._kept = True

    def __enter__(self):
        if self._desk_before is not None:
            raise OpenTrial("a trial is open")
        self._desk_before = self._desk
        self._pairs_before = self._pairs
        self._desk = self._desk.copied()
        self._pairs = list(self._pairs)
        return self

    def __exit__(self, kind, value, trace):
        if kind is not None or self._kept is None:
            self._desk = self._desk_before
            self._pairs = self._pairs_before
        self._desk_before = None
        self._pairs_before = None
        self._kept = None


def attempt(journal, lines, *, keep=False):
    """Answer lines in a trial, and return the answers and the record at its end."""
    with journal as trial:
        answers = [trial.answer(line) for line in lines]
        text = trial.record()
        if keep:
            trial.keep()
    return (answers, text)


def resume(text):
    """Return a journal that goes on from a record, which may have been cut off."""
    journal = Journal()
    rows = text.split("\n")[:-1]
    for at in range(0, len(rows), 2):
        line = rows[at][len(ASKED):]
        if not rows[at].startswith(ASKED) or not _can_be_recorded(line):
            raise BadJournal(at)
        # The answer to the last line may have been cut off.
        if at + 1 < len(rows) and rows[at + 1] != ANSWERED + journal.answer(line):
            raise BadJournal(at + 1)
    return journal
