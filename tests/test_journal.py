"""Journals: [300] to [304], and journal.py of the interface."""

import random
import unittest
from time import process_time

from soundturns.desk import Desk
from soundturns.errors import BadJournal, OpenTrial
from soundturns.journal import Journal, attempt, resume
from tests.test_desk import TALK

LINES = [line for line, _ in TALK] + ["", " ", "nothing", "list a 2 none", "show a", "form a ~", "learn a 2 1 a"]
NOT_RECORDED = ("\n", "a\n", "show\ta", "\u00e9", "list a 2 none\n", "\x00", "\x7f", "show \u2028a", "a\rb", "\x1f")


def told_journal(lines):
    """Return a journal that has answered lines."""
    journal = Journal()
    for line in lines:
        journal.answer(line)
    return journal


def record_of(lines):
    """Return the record of lines, by a desk."""
    desk = Desk()
    return "".join(f"> {line}\n< {desk.answer(line)}\n" for line in lines)


class RecordTest(unittest.TestCase):
    def test_to_the_character(self):
        journal = Journal()
        self.assertEqual((journal.record(), journal.lines()), ("", []))
        self.assertEqual(journal.answer("list a 2 a > b / _ b"), "1")
        self.assertEqual(journal.record(), "> list a 2 a > b / _ b\n< 1\n")
        self.assertEqual(journal.answer("form a ab"), "bb")
        self.assertEqual(journal.answer(""), "bad")
        self.assertEqual(journal.answer("  "), "bad")
        self.assertEqual(journal.answer("show b"), "unknown b")
        self.assertEqual(journal.record(), "> list a 2 a > b / _ b\n< 1\n> form a ab\n< bb\n> \n< bad\n>   \n< bad\n"
                                           "> show b\n< unknown b\n")
        self.assertEqual(journal.lines(), ["list a 2 a > b / _ b", "form a ab", "", "  ", "show b"])

    def test_answers_of_a_desk(self):
        journal, desk = Journal(), Desk()
        for line in LINES:
            self.assertEqual(journal.answer(line), desk.answer(line))
        self.assertEqual(journal.record(), record_of(LINES))
        self.assertEqual(journal.lines(), LINES)

    def test_lines_that_cannot_be_recorded(self):
        journal = told_journal(["list a 2 none"])
        for line in NOT_RECORDED + ("list a 3 none\u00a0", "drop a\n"):
            self.assertEqual(journal.answer(line), "bad")
            self.assertEqual(journal.record(), "> list a 2 none\n< 0\n")
            self.assertEqual(journal.lines(), ["list a 2 none"])
        self.assertEqual(journal.answer("show a"), "none")

    def test_all_characters(self):
        for code in range(300):
            sign = chr(code)
            journal = Journal()
            self.assertEqual(journal.answer(sign), "bad")
            self.assertEqual(journal.lines(), [sign] if " " <= sign <= "~" else [])

    def test_nothing_is_shared(self):
        one, other = told_journal(["list a 2 none"]), Journal()
        self.assertEqual((other.record(), other.answer("show a")), ("", "unknown a"))
        one.lines().append("x")
        self.assertEqual(one.lines(), ["list a 2 none"])


class ResumeTest(unittest.TestCase):
    def test_cut_off_at_each_place(self):
        lines = LINES[:6] + ["", "join d one two", "show d", "drop two", "form two ab", "sources one b 2"]
        full = told_journal(lines).record()
        ends = [len(told_journal(lines[:many]).record()) for many in range(len(lines) + 1)]
        for cut in range(len(full) + 1):
            journal = resume(full[:cut])
            many = max(number for number, end in enumerate(ends) if end <= cut)
            self.assertEqual(journal.record(), full[:ends[many]], cut)
            self.assertEqual(journal.lines(), lines[:many])
            desk = Desk()
            answers = desk.answers(lines)
            self.assertEqual([journal.answer(line) for line in lines[many:]], answers[many:])
            self.assertEqual(journal.record(), full)

    def test_whole_records(self):
        full = told_journal(LINES).record()
        journal = resume(full)
        self.assertEqual((journal.record(), journal.lines()), (full, LINES))
        for line in ("show both", "drop one", "show one"):
            self.assertEqual(journal.answer(line),
                             told_journal(LINES + ["drop one"] * (line == "show one")).answer(line))
        self.assertEqual(resume("").record(), "")

    def test_what_stands_behind_the_last_newline(self):
        for end in ("", ">", "> ", "x", "< ", "> \x00", "> show a", "\u00e9"):
            self.assertEqual(resume("> \n< bad\n" + end).record(), "> \n< bad\n")
            self.assertEqual(resume(end).record(), "")
            self.assertEqual(resume("> list a 2 none\n" + end).record(), "")

    def test_a_line_whose_answer_is_missing(self):
        journal = resume("> list a 2 none\n< 0\n> drop a\n")
        self.assertEqual(journal.record(), "> list a 2 none\n< 0\n")
        self.assertEqual(journal.answer("show a"), "none")
        for row in ("", "x", "< 0", ">", ">show a", "> \u00e9", "> a\x00", " > a", "> a\r"):
            with self.assertRaises(BadJournal) as caught:
                resume("> list a 2 none\n< 0\n" + row + "\n")
            self.assertEqual(caught.exception.row, 2)

    def test_wrong_rows(self):
        rows = told_journal(["list a 2 a > b / _ b", "form a ab", "", "show b"]).record().split("\n")[:-1]
        self.assertEqual(len(rows), 8)
        for at, row in enumerate(rows):
            wrongs = ["", "x", row[1:], row[2:], " " + row, "<" + row[1:] if at % 2 == 0 else ">" + row[1:],
                      row[0] + row[2:]]
            if at % 2 == 0:
                wrongs += ["> \x00", "> \u00e9", row + "\t", row + "\r"]
            else:
                wrongs += [row + " ", row + "x", row[:-1], "< ", "<", "< " + row, row.upper()]
            for wrong in wrongs:
                if wrong != row:
                    for begin in (rows[:at] + [wrong] + rows[at + 1:], rows[:at] + [wrong],
                                  rows[:at] + [wrong] + ["x"] * 3):
                        with self.assertRaises(BadJournal) as caught:
                            resume("\n".join(begin) + "\n")
                        self.assertEqual(caught.exception.row, at, (wrong, begin))

    def test_rows_left_out_or_put_in(self):
        rows = ["> list a 2 none", "< 0", "> show a", "< none"]
        for given, row in ((rows[1:], 0), (rows[:1] + rows[2:], 1), (rows[:2] + rows[3:], 2), (rows[:1] + rows, 1),
                           (rows[:2] + rows[1:], 2), (["", *rows], 0), (rows + [""], 4), (rows[2:] + rows[:2], 1),
                           (["> show a", "< unknown a", "> drop a", "< ok"], 3)):
            with self.assertRaises(BadJournal) as caught:
                resume("\n".join(given) + "\n")
            self.assertEqual(caught.exception.row, row)
        # Another line with the same answer is another line, but not a wrong one.
        self.assertEqual(resume("> list a 2 none\n< 0\n> list b 3 none\n< 0\n").lines()[1], "list b 3 none")

    def test_speed(self):
        begin = process_time()
        lines = ["list a 2 a > b / _ b", "alike a a", "form a aab"] * 300
        journal = told_journal(lines)
        self.assertEqual(resume(journal.record()).record(), journal.record())
        self.assertLess(process_time() - begin, 10)


class TrialTest(unittest.TestCase):
    BEGIN = ["list a 2 a > b / _", "list b 2 none"]
    TRIED = ["list c 2 none", "drop a", "list b 3 c > - / _", "", "show c"]

    def check_as_before(self, journal):
        """Check that a journal is as it was before the trial."""
        self.assertEqual(journal.lines(), self.BEGIN)
        self.assertEqual(journal.record(), record_of(self.BEGIN))
        self.assertEqual([journal.answer(line) for line in ("show a", "show b", "show c")],
                         ["a > b / _", "none", "unknown c"])

    def test_kept(self):
        journal = told_journal(self.BEGIN)
        with journal as trial:
            self.assertIs(trial, journal)
            trial.answer(self.TRIED[0])
            trial.keep()
            # What is answered behind it is kept, too.
            for line in self.TRIED[1:]:
                trial.answer(line)
            trial.keep()
        self.assertEqual(journal.record(), record_of(self.BEGIN + self.TRIED))
        self.assertEqual([journal.answer(line) for line in ("show a", "show b", "show c")],
                         ["unknown a", "c > - / _", "none"])

    def test_not_kept(self):
        journal = told_journal(self.BEGIN)
        with journal as trial:
            answers = [trial.answer(line) for line in self.TRIED]
            self.assertEqual(answers, ["0", "ok", "1", "bad", "none"])
            self.assertEqual(trial.record(), record_of(self.BEGIN + self.TRIED))
            self.assertEqual(journal.answer("show b"), "c > - / _")
        self.check_as_before(journal)

    def test_left_by_an_exception(self):
        for keeps in (False, True):
            journal = told_journal(self.BEGIN)
            with self.assertRaises(KeyError):
                with journal as trial:
                    for line in self.TRIED:
                        trial.answer(line)
                    if keeps:
                        trial.keep()
                    raise KeyError("left")
            self.check_as_before(journal)

    def test_left_by_return_and_break(self):
        def tried(journal, keeps):
            with journal as trial:
                trial.answer("drop a")
                if keeps:
                    trial.keep()
                return trial.answer("show a")

        for keeps in (False, True):
            journal = told_journal(self.BEGIN)
            self.assertEqual(tried(journal, keeps), "unknown a")
            self.assertEqual(journal.answer("show a"), "unknown a" if keeps else "a > b / _")
            for _ in range(3):
                with journal:
                    journal.answer("drop b")
                    break
            self.assertEqual(journal.answer("show b"), "none")

    def test_a_trial_within_a_trial(self):
        journal = told_journal(self.BEGIN)
        with journal:
            journal.answer(self.TRIED[0])
            with self.assertRaises(OpenTrial):
                with journal:
                    journal.answer("never")
            with self.assertRaises(OpenTrial):
                attempt(journal, ["drop b"], keep=True)
            # The open trial goes on.
            self.assertEqual(journal.record(), record_of(self.BEGIN + self.TRIED[:1]))
            self.assertEqual([journal.answer(line) for line in self.TRIED[1:]], ["ok", "1", "bad", "none"])
        self.check_as_before(journal)
        journal = told_journal(self.BEGIN)
        with journal:
            journal.keep()
            journal.answer("drop a")
            with self.assertRaises(OpenTrial):
                with journal:
                    pass
            journal.answer("drop b")
        self.assertEqual(journal.record(), record_of(self.BEGIN + ["drop a", "drop b"]))

    def test_an_inner_trial_that_leaves_the_outer_one(self):
        journal = told_journal(self.BEGIN)
        with self.assertRaises(OpenTrial):
            with journal:
                journal.answer("drop a")
                journal.keep()
                with journal:
                    pass
        self.check_as_before(journal)

    def test_trials_of_two_journals(self):
        one, other = told_journal(self.BEGIN), told_journal(self.BEGIN)
        with one:
            with other:
                one.answer("drop a")
                other.answer("drop b")
                other.keep()
        self.check_as_before(one)
        self.assertEqual(other.record(), record_of(self.BEGIN + ["drop b"]))

    def test_keep_without_a_trial(self):
        journal = told_journal(self.BEGIN)
        with self.assertRaises(OpenTrial):
            journal.keep()
        with journal:
            journal.keep()
        with self.assertRaises(OpenTrial):
            journal.keep()
        # What was kept in one trial does not keep the next one.
        with journal:
            for line in self.TRIED:
                journal.answer(line)
        with self.assertRaises(OpenTrial):
            journal.keep()
        self.check_as_before(journal)

    def test_lines_that_cannot_be_recorded(self):
        journal = told_journal(self.BEGIN)
        with journal:
            for line in NOT_RECORDED:
                self.assertEqual(journal.answer(line), "bad")
            journal.keep()
        self.check_as_before(journal)

    def test_resumed_journals(self):
        journal = resume(record_of(self.BEGIN))
        with journal:
            journal.answer("drop a")
        self.check_as_before(journal)


class AttemptTest(unittest.TestCase):
    def test_kept_and_not_kept(self):
        lines = ["list c 2 none", "drop a", "", "show a", "\n"]
        for keep in (False, True, None):
            journal = told_journal(TrialTest.BEGIN)
            told = attempt(journal, lines) if keep is None else attempt(journal, lines, keep=keep)
            self.assertEqual(told, (["0", "ok", "bad", "unknown a", "bad"], record_of(TrialTest.BEGIN + lines[:4])))
            self.assertIsInstance(told, tuple)
            self.assertEqual(journal.record(), record_of(TrialTest.BEGIN + (lines[:4] if keep else [])))
            self.assertEqual(journal.answer("show a"), "unknown a" if keep else "a > b / _")

    def test_no_lines(self):
        journal = told_journal(TrialTest.BEGIN)
        for keep in (False, True):
            self.assertEqual(attempt(journal, [], keep=keep), ([], record_of(TrialTest.BEGIN)))
        self.assertEqual(attempt(Journal(), []), ([], ""))
        lines = ["show a"]
        attempt(journal, lines)
        self.assertEqual(lines, ["show a"])

    def test_an_open_trial(self):
        journal = told_journal(TrialTest.BEGIN)
        with journal:
            for keep in (False, True):
                with self.assertRaises(OpenTrial):
                    attempt(journal, ["drop a"], keep=keep)
            self.assertEqual(journal.answer("show a"), "a > b / _")
            journal.keep()
        self.assertEqual(journal.lines(), TrialTest.BEGIN + ["show a"])

    def test_one_after_another(self):
        source = random.Random(304)
        journal = Journal()
        kept = []
        for _ in range(60):
            lines = [source.choice(LINES) for _ in range(source.randint(0, 4))]
            keep = source.random() < 0.5
            desk = Desk()
            desk.answers(kept)
            answers, record = attempt(journal, lines, keep=keep)
            self.assertEqual(answers, desk.answers(lines))
            self.assertEqual(record, record_of(kept + lines))
            kept += lines if keep else []
            self.assertEqual(journal.lines(), kept)
        self.assertEqual(journal.record(), record_of(kept))


if __name__ == "__main__":
    unittest.main()
