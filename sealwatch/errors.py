"""The errors of the package: each one is a direct subclass of WatchError."""


class WatchError(ValueError):
    """The base class of all errors of the package."""


class InvalidHouse(WatchError):
    """A house of which a part, at an index, is wrong or one too many."""

    def __init__(self, part, index):
        super().__init__(f"{part}: wrong at index {index}")
        self.part = part
        self.index = index


class InvalidHands(WatchError):
    """The hands of a team, of which one does not exist or does not ascend."""

    def __init__(self, index):
        super().__init__(f"wrong at the hand with index {index}")
        self.index = index


class InvalidLog(WatchError):
    """The rows of a log, of which one is wrong or one too many."""

    def __init__(self, index):
        super().__init__(f"wrong at the row with index {index}")
        self.index = index


class InvalidCheck(WatchError):
    """A check of what does not exist, or one check too many."""

    def __init__(self, index):
        super().__init__(f"wrong at the check with index {index}")
        self.index = index


class InvalidTeller(WatchError):
    """The tellers of a log, of which one is wrong, missing or superfluous."""

    def __init__(self, index):
        super().__init__(f"wrong at the teller with index {index}")
        self.index = index


class InvalidLogs(WatchError):
    """Logs that cannot be put together."""

    def __init__(self, index):
        super().__init__(f"wrong at the log with index {index}")
        self.index = index


class InvalidJoin(WatchError):
    """A join that does not take all rows of all logs."""

    def __init__(self, index):
        super().__init__(f"wrong at the number with index {index}")
        self.index = index


class InvalidRound(WatchError):
    """The deeds of a round, of which one is wrong or one too many."""

    def __init__(self, index):
        super().__init__(f"wrong at the deed with index {index}")
        self.index = index


class InvalidOperation(WatchError):
    """Operations, of which one is none."""

    def __init__(self, index):
        super().__init__(f"wrong at the operation with index {index}")
        self.index = index


class InvalidText(WatchError):
    """A text that is not the text of a log."""

    def __init__(self, row, word):
        super().__init__(f"wrong in row {row} at word {word}")
        self.row = row
        self.word = word


class DaybookError(WatchError):
    """A text that is not the text of a daybook."""

    def __init__(self, row, word):
        super().__init__(f"wrong in row {row} at word {word}")
        self.row = row
        self.word = word


class DecodeError(WatchError):
    """A list of integers that is not the code of a log."""

    def __init__(self, offset):
        super().__init__(f"wrong at offset {offset}")
        self.offset = offset


class InvalidNumber(WatchError):
    """A number of deeds or rounds that is not within its limits."""


class InvalidCourse(WatchError):
    """A course with another count of lists than there are gaps."""


class UnknownHand(WatchError):
    """A hand that does not exist, or that gives to itself."""


class UnknownItem(WatchError):
    """An item that does not exist, or that cannot stand at its place."""


class UnknownBox(WatchError):
    """A box that does not exist."""


class UnknownSeal(WatchError):
    """A seal that does not exist."""


class NotHeld(WatchError):
    """Something must be held straight by a hand, and is not."""


class NotInside(WatchError):
    """Something is taken out of a box in which it is not straight."""


class IsSealed(WatchError):
    """A box has a seal, and must have none."""


class NotSealed(WatchError):
    """A box has no seal, and must have one."""


class InsideItself(WatchError):
    """A box is put into or taken out of itself."""


class NoCourse(WatchError):
    """No course fits the log."""


class UnknownRow(WatchError):
    """A row that does not exist, or twice the same one."""


class InvalidName(WatchError):
    """A name that is not one to eight letters a to z."""


class UnknownMark(WatchError):
    """A name with which nothing is marked."""
