"""A journal: a desk whose lines and answers are recorded, from whose record it goes on, and which can be tried."""

from leafturner.desk import BAD, Desk
from leafturner.errors import BadJournal, OpenTrial
from leafturner.lines import is_sign

LINE_HEAD = "> "
ANSWER_HEAD = "< "


def can_be_recorded(line):
    return all(character == " " or is_sign(character) for character in line)


class Journal:
    """A desk, the lines that it answered with their answers, and what both were before an open trial."""

    def __init__(self):
        self.desk = Desk()
        self.pairs = []
        self.desk_before = None
        self.pairs_before = None
        self.kept = False

    def __enter__(self):
        if self.desk_before is not None:
            raise OpenTrial("a trial of this journal is open")
        self.desk_before = self.desk
        self.pairs_before = self.pairs
        self.desk = self.desk.copied()
        self.pairs = list(self.pairs)
        self.kept = False
        return self

    def __exit__(self, kind, value, trace):
        if kind is not None or not self.kept:
            self.desk = self.desk_before
            self.pairs = self.pairs_before
        self.desk_before = None
        self.pairs_before = None

    def keep(self):
        if self.desk_before is None:
            raise OpenTrial("no trial of this journal is open")
        self.kept = True

    def answer(self, line):
        if not can_be_recorded(line):
            return BAD
        answer = self.desk.answer(line)
        self.pairs.append((line, answer))
        return answer

    def record(self):
        return "".join([f"{LINE_HEAD}{line}\n{ANSWER_HEAD}{answer}\n" for line, answer in self.pairs])

    def lines(self):
        return [line for line, _ in self.pairs]


def attempt(journal, lines, *, keep=False):
    with journal as trial:
        answers = [trial.answer(line) for line in lines]
        record = trial.record()
        if keep:
            trial.keep()
    return answers, record


def is_row_of_line(row):
    return row.startswith(LINE_HEAD) and can_be_recorded(row[len(LINE_HEAD):])


def resume(text):
    journal = Journal()
    # The last part is what stands behind the last newline.
    rows = text.split("\n")[:-1]
    for at, row in enumerate(rows):
        if at % 2 == 0:
            if not is_row_of_line(row):
                raise BadJournal(at)
        elif row != ANSWER_HEAD + journal.answer(rows[at - 1][len(LINE_HEAD):]):
            raise BadJournal(at)
    return journal
