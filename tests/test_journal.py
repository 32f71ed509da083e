"""Promises [300] to [304]: the journal, its record and its trials."""

import random
import unittest

from foldfloor.desk import Desk
from foldfloor.errors import BadJournal, FoldError, OpenTrial
from foldfloor.journal import Journal, attempt, resume
from tests.test_desk import START, Slow, some_line

UNRECORDED = ("a\n", "\n", "a\nb", "show\tf", "%", "word w 0%", "\u00e9", "show f\x7f", "\r", "\x00", "a\u2028b")

MALFORMED = ("", " ", "  ", "show  f", " show f", "show f ", "show", "Show f", "show F")


class Odd(Exception):
    """An error that leaves a trial."""


def some_lines(seed, many):
    """Lines of which most can be answered, with some that cannot be recorded."""
    source = random.Random(seed)
    slow = Slow()
    lines = list(START)
    for line in lines:
        slow.answer(line)
    while len(lines) < many:
        lines.append(some_line(source, slow))
        slow.answer(lines[-1])
        if source.random() < 0.1:
            lines.append(source.choice(MALFORMED + UNRECORDED))
    return lines


def told(lines):
    """A journal that answered some lines."""
    journal = Journal()
    for line in lines:
        journal.answer(line)
    return journal


def row_pairs(lines):
    """The record of some lines that can be recorded, by a desk alone."""
    return "".join(f"> {line}\n< {answer}\n" for line, answer in zip(lines, Desk().answers(lines)))


class Records(unittest.TestCase):
    def test_new_journal(self):
        self.assertEqual(Journal().record(), "")
        self.assertEqual(Journal().lines(), [])

    def test_record_and_lines(self):
        for seed in range(4):
            lines = some_lines(seed, 60)
            journal, desk = Journal(), Desk()
            kept = []
            for line in lines:
                before = journal.record()
                answer = journal.answer(line)
                if line in UNRECORDED:
                    self.assertEqual(answer, "bad")
                    self.assertEqual(journal.record(), before)
                else:
                    self.assertEqual(answer, desk.answer(line))
                    self.assertEqual(journal.record(), before + f"> {line}\n< {answer}\n")
                    kept.append(line)
                self.assertEqual(journal.lines(), kept)
            self.assertEqual(journal.record(), row_pairs(kept))

    def test_malformed_lines(self):
        for line in MALFORMED:
            journal = Journal()
            self.assertEqual(journal.answer(line), "bad")
            self.assertEqual(journal.record(), f"> {line}\n< bad\n")
            self.assertEqual(journal.lines(), [line])

    def test_lines_that_cannot_be_recorded(self):
        journal = told(START)
        before = journal.record()
        for line in UNRECORDED:
            self.assertEqual(journal.answer(line), "bad")
            self.assertEqual(journal.record(), before)
            self.assertEqual(journal.lines(), START)

    def test_each_character(self):
        for code in list(range(300)) + [0x2028]:
            journal = Journal()
            self.assertEqual(journal.answer("show " + chr(code)),
                             "unknown " + chr(code) if 97 <= code <= 122 else "bad")
            self.assertEqual(len(journal.lines()), 1 if 32 <= code <= 126 and code != 37 else 0)

    def test_lists_are_not_shared(self):
        journal = told(START)
        journal.lines().clear()
        self.assertEqual(journal.lines(), START)

    def test_desk_of_its_own(self):
        one, other = Journal(), Journal()
        one.answer("word a 0")
        self.assertEqual(other.answer("show a"), "unknown a")


class Resumed(unittest.TestCase):
    def test_cut_off_at_each_place(self):
        lines = [line for line in some_lines(5, 25) if line not in UNRECORDED]
        journal = told(lines)
        record = journal.record()
        ends = [0]
        for at in range(len(lines)):
            ends.append(len(row_pairs(lines[:at + 1])))
        for cut in range(len(record) + 1):
            found = resume(record[:cut])
            whole = max(many for many, end in enumerate(ends) if end <= cut)
            self.assertEqual(found.record(), record[:ends[whole]])
            self.assertEqual(found.lines(), lines[:whole])
            if cut % 23 == 0 or cut == len(record):
                answers = [found.answer(line) for line in lines[whole:]]
                self.assertEqual(answers, Desk().answers(lines)[whole:])
                self.assertEqual(found.record(), record)

    def test_answer_that_is_missing(self):
        record = row_pairs(["word a 0", "show a"])
        found = resume(record + "> drop a\n")
        self.assertEqual(found.record(), record)
        self.assertEqual(found.answer("show a"), "0")
        # A line that is not whole is ignored, whatever stands there.
        for more in ("> drop a", "> dr", ">", "x", "> %", "< 0", "\t", "> drop a\n< o", "> drop a\n< x", "> drop a\n%"):
            self.assertEqual(resume(record + more).record(), record)

    def test_empty_records(self):
        for text in ("", ">", "> ", "> show a", "x", "\x00", "> show a\n", "> \n", "> drop a\n<"):
            self.assertEqual(resume(text).record(), "")
            self.assertEqual(resume(text).lines(), [])

    def test_it_goes_on(self):
        for seed in range(6, 9):
            lines = some_lines(seed, 50)
            journal = told(lines[:30])
            found = resume(journal.record())
            for line in lines[30:]:
                self.assertEqual(found.answer(line), journal.answer(line))
            self.assertEqual(found.record(), journal.record())
            self.assertEqual(found.lines(), journal.lines())

    def test_trials_of_resumed_journals(self):
        found = resume(row_pairs(["word a 0"]))
        with found as trial:
            trial.answer("word a 1")
        self.assertEqual(found.answer("show a"), "0")
        self.assertRaises(OpenTrial, found.keep)


class Wrong(unittest.TestCase):
    def check(self, text, row):
        with self.assertRaises(BadJournal) as caught:
            resume(text)
        self.assertEqual(caught.exception.row, row, repr(text))

    def test_each_row(self):
        lines = ["word a 0", "show a", "", "show b", "floor f 3 3 3", "normal n f a", "drop a"]
        rows = row_pairs(lines).split("\n")[:-1]
        for at, row in enumerate(rows):
            wrong = [row[2:], row[1:], "", " " + row, "x" + row[1:], row + "%", row + "\t", row + "\x7f",
                     row[0] + "_" + row[2:], ("<" if row[0] == ">" else ">") + row[1:]]
            if row[0] == "<":
                wrong += [row + "x", row + " ", row[:-1], row[:2] + "ok ", "< refused", "<\u00a0" + row[2:]]
            for other in wrong:
                self.check("\n".join(rows[:at] + [other] + rows[at + 1:]) + "\n", at)
                # Also as the last row, with something behind it that is ignored.
                self.check("\n".join(rows[:at] + [other]) + "\n", at)
                self.check("\n".join(rows[:at] + [other]) + "\n> sh", at)

    def test_rows_exchanged_told_twice_or_left_out(self):
        rows = row_pairs(["word a 0", "word a 1", "show a", "drop a"]).split("\n")[:-1]
        for at in range(len(rows) - 1):
            self.check("\n".join(rows[:at] + [rows[at + 1], rows[at]] + rows[at + 2:]) + "\n", at)
        for at in range(len(rows)):
            self.check("\n".join(rows[:at + 1] + rows[at:]) + "\n", at + 1)
        for at in range(len(rows) - 1):
            self.check("\n".join(rows[:at] + rows[at + 1:]) + "\n", at)
        # Without the last row, the answer is missing; without its line, it stands where a line is due.
        self.assertEqual(resume("\n".join(rows[:-1]) + "\n").lines(), ["word a 0", "word a 1", "show a"])
        self.check("\n".join(rows[:-2] + rows[-1:]) + "\n", 6)

    def test_pairs_exchanged(self):
        # The answers tell that the lines came in another order.
        record = row_pairs(["word a 0", "show a"])
        rows = record.split("\n")[:-1]
        self.check("\n".join(rows[2:] + rows[:2]) + "\n", 1)

    def test_empty_rows(self):
        self.check("\n", 0)
        self.check("> show a\n\n", 1)
        self.check("> show a\n< unknown a\n\n", 2)
        self.check("> show a\n< unknown a\n\n> show", 2)

    def test_first_wrong_row(self):
        self.check("> word a 0\n< bad\n> show %\n< 0\n", 1)
        self.check("> word a 0\n< ok\n> show %\n< 0\n< 0\n", 2)
        self.check("> word a 0\r\n< ok\r\n", 0)

    def test_errors_have_the_row(self):
        error = BadJournal(7)
        self.assertEqual(error.row, 7)
        self.assertIsInstance(error, FoldError)


class Trials(unittest.TestCase):
    def test_taken_back(self):
        journal = told(START)
        before = journal.record()
        with journal as trial:
            self.assertIs(trial, journal)
            self.assertEqual(trial.answer("word a 2"), "ok")
            self.assertEqual(trial.answer("drop f"), "ok")
            self.assertEqual(trial.answer("show a"), "2")
            self.assertNotEqual(journal.record(), before)
            self.assertEqual(journal.lines(), START + ["word a 2", "drop f", "show a"])
        self.assertEqual(journal.record(), before)
        self.assertEqual(journal.lines(), START)
        self.assertEqual(journal.answer("show a"), "0")
        self.assertEqual(journal.answer("show f"), "3 4 2")

    def test_kept(self):
        journal = told(START)
        with journal as trial:
            trial.answer("word a 2")
            self.assertIsNone(trial.keep())
            # What follows is kept, too, and keep may be called again.
            trial.answer("drop f")
            trial.keep()
        self.assertEqual(journal.lines(), START + ["word a 2", "drop f"])
        self.assertEqual(journal.record(), row_pairs(START + ["word a 2", "drop f"]))
        self.assertEqual(journal.answer("show a"), "2")
        self.assertEqual(journal.answer("show f"), "unknown f")

    def test_kept_once(self):
        journal = told(["word a 0"])
        with journal as trial:
            trial.answer("word a 1")
            trial.keep()
        with journal as trial:
            trial.answer("word a 2")
        self.assertEqual(journal.answer("show a"), "1")
        self.assertRaises(OpenTrial, journal.keep)

    def test_exceptions(self):
        for keeps in (False, True):
            journal = told(["word a 0"])
            before = journal.record()
            with self.assertRaises(Odd):
                with journal as trial:
                    trial.answer("word a 1")
                    if keeps:
                        trial.keep()
                    trial.answer("word b 1")
                    raise Odd("leaves")
            self.assertEqual(journal.record(), before)
            self.assertEqual(journal.answer("show a"), "0")
            self.assertEqual(journal.answer("show b"), "unknown b")
            # The trial is over: another one can be opened, and it is not kept.
            self.assertRaises(OpenTrial, journal.keep)
            with journal as trial:
                trial.answer("word a 1")
            self.assertEqual(journal.answer("show a"), "0")

    def test_left_by_return(self):
        def run(journal, keeps):
            with journal as trial:
                trial.answer("word a 1")
                if keeps:
                    trial.keep()
                return trial.answer("show a")
        for keeps, after in ((False, "0"), (True, "1")):
            journal = told(["word a 0"])
            self.assertEqual(run(journal, keeps), "1")
            self.assertEqual(journal.answer("show a"), after)

    def test_second_trial(self):
        for keeps, after in ((False, "unknown a"), (True, "1")):
            journal = Journal()
            with journal as trial:
                trial.answer("word a 0")
                with self.assertRaises(OpenTrial):
                    with journal:
                        self.fail("a second trial was opened")
                self.assertRaises(OpenTrial, attempt, journal, ["word a 2"])
                # The open one goes on.
                self.assertEqual(trial.answer("show a"), "0")
                self.assertEqual(trial.lines(), ["word a 0", "show a"])
                trial.answer("word a 1")
                if keeps:
                    trial.keep()
            self.assertEqual(journal.answer("show a"), after)

    def test_second_trial_leaves_the_first_one(self):
        journal = Journal()
        with self.assertRaises(OpenTrial):
            with journal as trial:
                trial.answer("word a 0")
                trial.keep()
                with journal:
                    self.fail("a second trial was opened")
        self.assertEqual(journal.record(), "")
        self.assertEqual(journal.answer("show a"), "unknown a")

    def test_keep_outside(self):
        journal = Journal()
        self.assertRaises(OpenTrial, journal.keep)
        with journal:
            pass
        self.assertRaises(OpenTrial, journal.keep)
        attempt(journal, ["word a 0"], keep=True)
        self.assertRaises(OpenTrial, journal.keep)

    def test_two_journals(self):
        one, other = Journal(), Journal()
        with one, other:
            one.answer("word a 0")
            other.answer("word a 1")
            other.keep()
        self.assertEqual(one.answer("show a"), "unknown a")
        self.assertEqual(other.answer("show a"), "1")

    def test_lines_that_cannot_be_recorded(self):
        journal = Journal()
        with journal as trial:
            self.assertEqual(trial.answer("a\tb"), "bad")
            self.assertEqual(trial.record(), "")
            self.assertEqual(trial.answer(""), "bad")
            trial.keep()
        self.assertEqual(journal.record(), "> \n< bad\n")


class Attempts(unittest.TestCase):
    def test_not_kept(self):
        for seed in range(10, 13):
            lines = some_lines(seed, 40)
            for keywords in ({}, {"keep": False}):
                journal = told(START)
                before = journal.record()
                given = list(lines)
                answers, record = attempt(journal, lines, **keywords)
                other = told(START)
                self.assertEqual(answers, [other.answer(line) for line in lines])
                self.assertEqual(record, other.record())
                self.assertEqual(journal.record(), before)
                self.assertEqual(journal.answer("show a"), "0")
                self.assertEqual(lines, given)

    def test_kept(self):
        for seed in range(13, 16):
            lines = some_lines(seed, 40)
            journal, other = told(START), told(START)
            answers, record = attempt(journal, lines, keep=True)
            self.assertEqual(answers, [other.answer(line) for line in lines])
            self.assertEqual(record, other.record())
            self.assertEqual(journal.record(), record)
            self.assertEqual(journal.lines(), other.lines())
            for line in some_lines(seed + 9, 30):
                self.assertEqual(journal.answer(line), other.answer(line))

    def test_no_lines(self):
        journal = told(START)
        for keep in (False, True):
            self.assertEqual(attempt(journal, [], keep=keep), ([], journal.record()))
        self.assertEqual(attempt(Journal(), []), ([], ""))

    def test_lines_of_the_journal_itself(self):
        journal = told(START)
        answers, _ = attempt(journal, journal.lines(), keep=True)
        self.assertEqual(len(answers), len(START))
        self.assertEqual(journal.lines(), START + START)


if __name__ == "__main__":
    unittest.main()
