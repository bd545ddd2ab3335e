"""Journals: desks whose lines and answers are recorded, and may be taken back."""

from soundturns.desk import BAD, Desk
from soundturns.errors import BadJournal, OpenTrial

ANSWER = "< "
LINE = "> "


def _can_be_recorded(line):
    """Return True if a line can be recorded, otherwise False."""
    return all([" " <= sign <= "~" for sign in line])


class Journal:
    """Answers lines by a desk of its own, and records them.

    A trial works on copies, so what was there before is only put back.
    """

    def __init__(self):
        self.desk = Desk()
        self.rows = []
        self.desk_before = None
        self.rows_before = None
        self.is_kept = False

    def answer(self, line):
        """Return the answer to a line, and record both if the line can be recorded."""
        if not _can_be_recorded(line):
            return BAD
        told = self.desk.answer(line)
        self.rows.append((line, told))
        return told

    def record(self):
        """Return the record, a text."""
        return "".join([f"{LINE}{line}\n{ANSWER}{told}\n" for line, told in self.rows])

    def lines(self):
        """Return the list of the recorded lines."""
        return [line for line, _ in self.rows]

    def keep(self):
        """Keep what the open trial answers, unless an exception leaves it."""
        if self.desk_before is None:
            raise OpenTrial("no trial is open")
        self.is_kept = True

    def __enter__(self):
        if self.desk_before is not None:
            raise OpenTrial("a trial is open")
        self.desk_before = self.desk
        self.rows_before = self.rows
        self.desk = self.desk.copied()
        self.rows = list(self.rows)
        self.is_kept = False
        return self

    def __exit__(self, kind, value, trace):
        if kind is not None or not self.is_kept:
            self.desk = self.desk_before
            self.rows = self.rows_before
        self.desk_before = None
        self.rows_before = None
        self.is_kept = False


def attempt(journal, lines, *, keep=False):
    """Answer lines in a trial; return the list of the answers, and the record at the end of the trial."""
    with journal as trial:
        answers = [trial.answer(line) for line in lines]
        record = trial.record()
        if keep:
            trial.keep()
    return answers, record


def _check_row(is_right, row):
    """Return None, or raise BadJournal with the index of a row that is wrong."""
    if not is_right:
        raise BadJournal(row)


def resume(text):
    """Return the journal that goes on from a record, which may have been cut off."""
    journal = Journal()
    *rows, _ = text.split("\n")
    told = ""
    for at, row in enumerate(rows):
        if at % 2 == 1:
            _check_row(row == ANSWER + told, at)
        else:
            line = row[len(LINE):]
            _check_row(row.startswith(LINE) and _can_be_recorded(line), at)
            # A line whose answer is missing was not recorded.
            if at + 1 < len(rows):
                told = journal.answer(line)
    return journal
