"""All refusals."""


class BeatError(ValueError):
    """Any refusal."""


class BadMemory(BeatError):
    """Words that can't be."""


class BadBeats(BeatError):
    """A number of beats that can't be."""


class BadWindow(BeatError):
    """A window that can't be."""


class BadClaim(BeatError):
    """A claim that can't be."""


class BadRow(BeatError):
    """A row, a mark or an address that there isn't."""


class Crooked(BeatError):
    """A program with a go or an if, where a straight one is needed."""


class BadProgram(BeatError):
    """A program that can't be; at is its first row that can't be."""

    def __init__(self, at):
        super().__init__(f"row {at} of the program can't be")
        self.at = at


class BadWorks(BeatError):
    """Works that can't be; at is the first one that can't be."""

    def __init__(self, at):
        super().__init__(f"work {at} can't be")
        self.at = at


class BadAsks(BeatError):
    """Asks that can't be; at is the first one that can't be."""

    def __init__(self, at):
        super().__init__(f"ask {at} can't be")
        self.at = at


class BadLog(BeatError):
    """A log that can't be; at is its first beat that is none."""

    def __init__(self, at):
        super().__init__(f"beat {at} of the log is none")
        self.at = at


class BadText(BeatError):
    """A text that can't be read; row is its first row that can't stand there."""

    def __init__(self, row):
        super().__init__(f"row {row} of the text can't stand there")
        self.row = row
