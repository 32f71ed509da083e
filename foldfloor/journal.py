"""The journal: a desk whose lines and answers are recorded, and trials that can be taken back."""

from foldfloor.desk import Desk
from foldfloor.errors import BadJournal, OpenTrial
from foldfloor.lines import is_plain

LINE_MARK = "> "

ANSWER_MARK = "< "


class Journal:
    """A desk of its own, with a record of what it was asked and what it answered."""

    def __init__(self):
        self.desk = Desk()
        # The recorded lines with their answers.
        self.told = []
        # The desk and what was told at the beginning of the open trial; None if no trial is open.
        self.desk_before = None
        self.told_before = None
        # True in a trial that is kept, otherwise None.
        self.kept = None

    def answer(self, line):
        """The answer to a line, which is recorded if it can be."""
        if not is_plain(line):
            return "bad"
        found = self.desk.answer(line)
        self.told.append((line, found))
        return found

    def record(self):
        """The record: two rows for each recorded line."""
        rows = [f"{LINE_MARK}{line}\n{ANSWER_MARK}{found}\n" for line, found in self.told]
        return "".join(rows)

    def lines(self):
        """The list of the recorded lines."""
        return [line for line, _ in self.told]

    def keep(self):
        """Keeps what is answered in the open trial."""
        if self.desk_before is None:
            raise OpenTrial("no trial is open")
        self.kept = True

    def __enter__(self):
        if self.desk_before is not None:
            raise OpenTrial("a trial of this journal is open already")
        self.desk_before = self.desk.copied()
        self.told_before = list(self.told)
        return self

    def __exit__(self, kind, value, trace):
        if self.kept is None or kind is not None:
            self.desk = self.desk_before
            self.told = self.told_before
        self.desk_before = None
        self.told_before = None
        self.kept = None


def attempt(journal, lines, *, keep=False):
    """The answers to some lines in a trial, and the record at its end."""
    with journal:
        answers = [journal.answer(line) for line in lines]
        record = journal.record()
        if keep:
            journal.keep()
    return answers, record


def line_in(row, at):
    """The line in a row of a record; raises BadJournal for a row that is none of a line."""
    if not row.startswith(LINE_MARK) or not is_plain(row):
        raise BadJournal(at)
    return row[len(LINE_MARK):]


def resume(text):
    """The journal that goes on from a record, which may have been cut off."""
    rows = text.split("\n")[:-1]
    journal = Journal()
    for at in range(0, len(rows), 2):
        line = line_in(rows[at], at)
        # The last line may be without its answer.
        if at + 1 < len(rows) and rows[at + 1] != ANSWER_MARK + journal.answer(line):
            raise BadJournal(at + 1)
    return journal
