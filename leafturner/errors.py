"""The errors of the program."""


class LeafError(ValueError):
    """The base class of all errors that the program raises."""


class NotMachine(LeafError):
    """A pair is no wide machine, or no machine where one is needed."""


class NotWord(LeafError):
    """A text is no word for a machine, or too long."""


class NotString(LeafError):
    """A text is no string of digits, or too long."""


class NotEndless(LeafError):
    """A pair tells no endless string."""


class NotList(LeafError):
    """A list is not one of the kind that is needed."""


class NotPortrait(LeafError):
    """A tuple is no portrait."""


class NotGraph(LeafError):
    """A tuple is no graph."""


class BadNumber(LeafError):
    """A number, or an arrangement of numbers, is not one of those that may stand there."""


class TooLarge(LeafError):
    """Something has more parts than the program goes through."""


class NoAnswer(LeafError):
    """There is nothing that could be returned."""


class OpenTrial(LeafError):
    """A trial is open where there may be none, or none where there must be one."""


class Malformed(LeafError):
    """A text breaks off, or has a wrong word, at an index."""

    def __init__(self, at):
        super().__init__("a text breaks off, or has a wrong word")
        self.at = at


class BadJournal(LeafError):
    """A record has a wrong row at an index."""

    def __init__(self, row):
        super().__init__("a record has a wrong row")
        self.row = row
