import random
import unittest

from leafturner.desk import Desk
from leafturner.errors import BadJournal, LeafError, OpenTrial
from leafturner.journal import Journal, attempt, resume

LINE = "machine f 2 / 1:1 0:0 / 0:1 1:1"
LINES = [LINE, "show f", "image f a 110", "", " ", "x y  z", "undo g f", "drop f", "show f", "alike g 0 g 1", "~ ! -"]
ANSWERS = ["2", "2 / 1:1 0:0 / 0:1 1:1", "001", "bad", "bad", "bad", "2", "ok", "unknown f", "0", "bad"]
CANNOT_BE_RECORDED = ("%", "show f%", "show\tf", "show f\n", "\n", "a\nb", "\u00e9", "show \u0066\u0301", "\x7f", "\x00",
                      "\x1f", "\r", "\u2028", "\U0001f600")


class Stopped(Exception):
    """An error that is none of the program's own."""


def filled(lines=LINES):
    journal = Journal()
    for line in lines:
        journal.answer(line)
    return journal


def record_of(lines, answers):
    return "".join([f"> {line}\n< {answer}\n" for line, answer in zip(lines, answers)])


class Records(unittest.TestCase):
    """[300] and [301]."""

    def test_a_new_journal(self):
        journal = Journal()
        self.assertEqual(journal.record(), "")
        self.assertEqual(journal.lines(), [])

    def test_lines_are_passed_to_a_desk(self):
        journal = Journal()
        self.assertEqual([journal.answer(line) for line in LINES], ANSWERS)
        self.assertEqual(Desk().answers(LINES), ANSWERS)
        self.assertEqual(journal.lines(), LINES)

    def test_the_record_row_by_row(self):
        journal = Journal()
        for many, line in enumerate(LINES):
            journal.answer(line)
            self.assertEqual(journal.record(), record_of(LINES[:many + 1], ANSWERS))
        self.assertEqual(filled([LINE, ""]).record(), "> " + LINE + "\n< 2\n> \n< bad\n")

    def test_lines_that_cannot_be_recorded(self):
        for line in CANNOT_BE_RECORDED:
            journal = filled([LINE])
            self.assertEqual(journal.answer(line), "bad")
            self.assertEqual(journal.record(), record_of([LINE], ["2"]))
            self.assertEqual(journal.lines(), [LINE])
            self.assertEqual(journal.answer("show f"), ANSWERS[1])
        # None of them is passed on: these would change the desk, but for one sign.
        journal = filled([LINE])
        for line in ("drop f\n", "drop f%", "\tdrop f"):
            self.assertEqual(journal.answer(line), "bad")
        self.assertEqual(journal.answer("show f"), ANSWERS[1])

    def test_each_sign(self):
        for code in range(0, 300):
            line = "show" + chr(code) + "f"
            journal = Journal()
            journal.answer(line)
            self.assertEqual(journal.lines(), [line] if 32 <= code <= 126 and code != 37 else [])

    def test_each_journal_has_its_own_desk(self):
        one, other = Journal(), Journal()
        one.answer(LINE)
        self.assertEqual(other.answer("show f"), "unknown f")
        self.assertEqual(other.lines(), ["show f"])

    def test_lists_are_not_shared(self):
        """[0]."""
        journal = filled()
        journal.lines().append("x")
        self.assertEqual(journal.lines(), LINES)


class Resumed(unittest.TestCase):
    """[302] and [303]."""

    def test_a_record_cut_off_at_every_place(self):
        whole = filled().record()
        for at in range(len(whole) + 1):
            journal = resume(whole[:at])
            many = max([n for n in range(len(LINES) + 1) if len(record_of(LINES[:n], ANSWERS)) <= at])
            self.assertEqual(journal.record(), record_of(LINES[:many], ANSWERS))
            self.assertEqual(journal.lines(), LINES[:many])
            self.assertEqual([journal.answer(line) for line in LINES[many:]], ANSWERS[many:])
            self.assertEqual(journal.record(), whole)

    def test_an_odd_row_is_not_passed_on(self):
        journal = resume(record_of([LINE], ["2"]) + "> drop f\n")
        self.assertEqual(journal.lines(), [LINE])
        self.assertEqual(journal.answer("show f"), ANSWERS[1])
        self.assertEqual(resume("> \n").record(), "")
        self.assertEqual(resume("> anything goes\n").record(), "")

    def test_behind_the_last_newline(self):
        for rest in ("", ">", "> ", "x", "> show f", "%", "< wrong", "\u00e9", "\t"):
            self.assertEqual(resume(record_of([LINE], ["2"]) + rest).record(), record_of([LINE], ["2"]))
            self.assertEqual(resume("> show f\n" + rest).record(), "")
            self.assertEqual(resume(rest).record(), "")

    def bad(self, text, row):
        with self.assertRaises(BadJournal) as caught:
            resume(text)
        self.assertEqual(caught.exception.row, row, text)

    def test_other_heads(self):
        rows = filled().record().split("\n")[:-1]
        for at, row in enumerate(rows):
            for head in ("", ">", "<", " >", "< " if at % 2 == 0 else "> ", ">>", "<<", ">-", "<-", "x "):
                changed = rows[:at] + [head + row[2:]] + rows[at + 1:]
                if not (head + row[2:]).startswith(row[:2]):
                    self.bad("\n".join(changed) + "\n", at)
                    # It is found also if it is the last row.
                    self.bad("\n".join(changed[:at + 1]) + "\n", at)
            self.bad("\n".join(rows[:at] + [""] + rows[at + 1:]) + "\n", at)

    def test_other_answers(self):
        rows = filled().record().split("\n")[:-1]
        for at in range(1, len(rows), 2):
            for answer in ("", "x", rows[at][2:] + " ", " " + rows[at][2:], rows[at][2:-1], "refused", rows[at][2:] + "%"):
                self.bad("\n".join(rows[:at] + ["< " + answer] + rows[at + 1:]) + "\n", at)
                self.bad("\n".join(rows[:at] + ["< " + answer]) + "\n", at)

    def test_signs_that_cannot_be_recorded(self):
        rows = filled().record().split("\n")[:-1]
        for at in range(0, len(rows), 2):
            for sign in ("%", "\t", "\u00e9", "\r", "\x7f", "\x0b", "\x0c", "\x85", "\u2028"):
                for changed in (rows[at] + sign, rows[at][:2] + sign + rows[at][2:]):
                    self.bad("\n".join(rows[:at] + [changed] + rows[at + 1:]) + "\n", at)
                    self.bad("\n".join(rows[:at] + [changed]) + "\n", at)
        self.bad("> %\n< bad\n", 0)
        self.bad("> %\n", 0)

    def test_the_first_wrong_row(self):
        self.bad("> x\n< ok\nx\n", 1)
        self.bad("> x\n< bad\nx\ny\n", 2)
        self.bad("> %\n< wrong\n", 0)
        self.bad("\n", 0)
        self.bad("\n\n", 0)
        self.bad("> show f\n< unknown f\n\n", 2)
        self.bad("> drop f\n< ok\n> %\n", 1)

    def test_rows_of_other_journals(self):
        record = filled().record()
        rows = record.split("\n")[:-1]
        # Without the row that puts the machine there, the next answer is another one.
        self.bad("\n".join(rows[2:]) + "\n", 1)
        self.bad(record.replace("\n", "\r\n"), 0)

    def test_a_resumed_journal_goes_on(self):
        rng = random.Random(303)
        lines = [rng.choice(LINES + ["show g", "least f g 0", "digits g g 10", "rest g a", "growth f 3"]) for _ in range(60)]
        first = filled(lines)
        for many in (0, 1, 7, 30, 59, 60):
            journal = resume(filled(lines[:many]).record())
            self.assertEqual([journal.answer(line) for line in lines[many:]], Desk().answers(lines)[many:])
            self.assertEqual(journal.record(), first.record())

    def test_an_error_of_the_program(self):
        self.assertRaises(LeafError, resume, "x\n")


class Trials(unittest.TestCase):
    """[304]."""

    def test_a_trial_that_is_not_kept(self):
        journal = filled([LINE])
        with journal as trial:
            self.assertIs(trial, journal)
            self.assertEqual(trial.answer("drop f"), "ok")
            self.assertEqual(trial.answer("undo g f"), "unknown f")
            self.assertEqual(trial.lines(), [LINE, "drop f", "undo g f"])
            self.assertEqual(trial.record(), record_of([LINE, "drop f", "undo g f"], ["2", "ok", "unknown f"]))
        self.assertEqual(journal.record(), record_of([LINE], ["2"]))
        self.assertEqual(journal.answer("show f"), ANSWERS[1])
        self.assertEqual(journal.answer("show g"), "unknown g")

    def test_what_is_put_in_a_trial_is_taken_back(self):
        journal = filled([LINE])
        with journal as trial:
            trial.answer("machine f 2 / 0:0 1:0")
            trial.answer("undo g f")
            self.assertEqual(trial.answer("show f"), "2 / 0:0 1:0")
        self.assertEqual(journal.answer("show f"), ANSWERS[1])
        self.assertEqual(journal.answer("show g"), "unknown g")

    def test_a_trial_that_is_kept(self):
        journal = filled([LINE])
        with journal as trial:
            trial.answer("undo g f")
            self.assertIsNone(trial.keep())
            trial.answer("drop f")
        self.assertEqual(journal.lines(), [LINE, "undo g f", "drop f"])
        self.assertEqual(journal.answer("show f"), "unknown f")
        self.assertEqual(journal.answer("show g"), "2 / 1:0 0:1 / 0:1 1:1")

    def test_an_exception_that_leaves_the_statement(self):
        for kept in (True, False):
            for error in (Stopped, BadJournal(3), KeyError, KeyboardInterrupt):
                journal = filled([LINE])
                with self.assertRaises(type(error) if isinstance(error, Exception) else error):
                    with journal as trial:
                        trial.answer("drop f")
                        if kept:
                            trial.keep()
                        raise error
                self.assertEqual(journal.record(), record_of([LINE], ["2"]))
                self.assertEqual(journal.answer("show f"), ANSWERS[1])
                self.assertRaises(OpenTrial, journal.keep)

    def test_an_exception_that_does_not_leave_it(self):
        journal = filled([LINE])
        with journal as trial:
            try:
                trial.answer("drop f")
                raise Stopped
            except Stopped:
                trial.keep()
        self.assertEqual(journal.answer("show f"), "unknown f")

    def test_leaving_by_return(self):
        journal = filled([LINE])

        def tried(kept):
            with journal as trial:
                if kept:
                    trial.keep()
                return trial.answer("drop f")

        self.assertEqual(tried(False), "ok")
        self.assertEqual(journal.lines(), [LINE])
        self.assertEqual(tried(True), "ok")
        self.assertEqual(journal.lines(), [LINE, "drop f"])

    def test_a_trial_within_a_trial(self):
        for kept in (True, False):
            journal = filled([LINE])
            with journal as trial:
                trial.answer("undo g f")
                if kept:
                    trial.keep()
                with self.assertRaises(OpenTrial):
                    with trial:
                        self.fail("a second trial was opened")
                self.assertRaises(OpenTrial, attempt, journal, ["drop f"])
                self.assertRaises(OpenTrial, attempt, journal, ["drop f"], keep=True)
                # The open trial goes on.
                self.assertEqual(trial.answer("show g"), "2 / 1:0 0:1 / 0:1 1:1")
                self.assertEqual(trial.lines(), [LINE, "undo g f", "show g"])
            self.assertEqual(journal.lines(), [LINE, "undo g f", "show g"] if kept else [LINE])

    def test_two_journals(self):
        one, other = filled([LINE]), filled([LINE])
        with one as first:
            with other as second:
                first.answer("drop f")
                second.answer("undo g f")
                second.keep()
        self.assertEqual((one.lines(), other.lines()), ([LINE], [LINE, "undo g f"]))

    def test_keep_outside_of_a_trial(self):
        journal = filled([LINE])
        self.assertRaises(OpenTrial, journal.keep)
        with journal as trial:
            trial.keep()
        self.assertRaises(OpenTrial, journal.keep)
        self.assertRaises(OpenTrial, Journal().keep)
        self.assertRaises(OpenTrial, resume(journal.record()).keep)

    def test_a_second_trial(self):
        journal = filled([LINE])
        with journal as trial:
            trial.answer("undo g f")
            trial.keep()
        # That the first one was kept does not keep the second one.
        with journal as trial:
            trial.answer("drop f")
        self.assertEqual(journal.lines(), [LINE, "undo g f"])
        with journal as trial:
            trial.answer("drop g")
            trial.keep()
        self.assertEqual(journal.lines(), [LINE, "undo g f", "drop g"])
        self.assertEqual(journal.answer("show g"), "unknown g")
        self.assertEqual(journal.answer("show f"), ANSWERS[1])

    def test_lines_that_cannot_be_recorded(self):
        journal = filled([LINE])
        with journal as trial:
            self.assertEqual(trial.answer("drop f%"), "bad")
            trial.keep()
        self.assertEqual(journal.record(), record_of([LINE], ["2"]))


class Attempts(unittest.TestCase):
    """[304]."""

    def test_not_kept(self):
        for values in ({}, {"keep": False}):
            journal = filled([LINE])
            found = attempt(journal, ["drop f", "show f"], **values)
            self.assertEqual(found, (["ok", "unknown f"],
                                     record_of([LINE, "drop f", "show f"], ["2", "ok", "unknown f"])))
            self.assertEqual(journal.record(), record_of([LINE], ["2"]))
            self.assertEqual(journal.answer("show f"), ANSWERS[1])

    def test_kept(self):
        journal = filled([LINE])
        answers, record = attempt(journal, ["drop f", "show f", "x%"], keep=True)
        self.assertEqual(answers, ["ok", "unknown f", "bad"])
        self.assertEqual(record, record_of([LINE, "drop f", "show f"], ["2", "ok", "unknown f"]))
        self.assertEqual(journal.record(), record)
        self.assertEqual(journal.answer("show f"), "unknown f")

    def test_no_lines(self):
        for keep in (True, False):
            journal = filled([LINE])
            self.assertEqual(attempt(journal, [], keep=keep), ([], record_of([LINE], ["2"])))
            self.assertEqual(journal.lines(), [LINE])

    def test_one_after_the_other(self):
        journal = Journal()
        self.assertEqual(attempt(journal, LINES), (ANSWERS, record_of(LINES, ANSWERS)))
        self.assertEqual(attempt(journal, LINES, keep=True), (ANSWERS, record_of(LINES, ANSWERS)))
        self.assertEqual(attempt(journal, ["show g"])[0], ["2 / 1:0 0:1 / 0:1 1:1"])
        self.assertEqual(journal.record(), record_of(LINES, ANSWERS))
        self.assertEqual(resume(journal.record()).record(), journal.record())

    def test_arguments_are_unchanged(self):
        """[0]."""
        journal = Journal()
        lines = list(LINES)
        answers, _ = attempt(journal, lines, keep=True)
        answers.append("x")
        self.assertEqual(lines, LINES)
        self.assertEqual(journal.record(), record_of(LINES, ANSWERS))


if __name__ == "__main__":
    unittest.main()
