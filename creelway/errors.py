"""The refusals of Creelway, one class for each."""


class CreelError(ValueError):
    """Any refusal."""


class TooMany(CreelError):
    """There are more than 60 stones."""


class BadRow(CreelError):
    """A place of a row isn't above the one ahead of it; `at` is its number in the list, from 0."""

    def __init__(self, at):
        CreelError.__init__(self, f"place {at} of the row isn't above the one ahead of it")
        self.at = at


class BadCreel(CreelError):
    """A creel's size is below 1."""


class BadTrains(CreelError):
    """A train's size is below 1; `at` is its number in the list, from 0."""

    def __init__(self, at):
        CreelError.__init__(self, f"train {at} has a size below 1")
        self.at = at


class BadSizes(CreelError):
    """A size is below 1; `at` is its number in the list, from 0."""

    def __init__(self, at):
        CreelError.__init__(self, f"size {at} is below 1")
        self.at = at


class BadNumber(CreelError):
    """A number lies outside what is asked for."""


class TooNear(CreelError):
    """The gap is less than the row that is laid behind has stones."""


class Bare(CreelError):
    """A row is without stones where some are asked for."""


class BadName(CreelError):
    """A road can't have this name."""


class Taken(CreelError):
    """Another road has this name."""


class Full(CreelError):
    """The house has no room for another road."""


class NoRoad(CreelError):
    """No road has this name."""


class Laid(CreelError):
    """A stone lies there."""


class NoStone(CreelError):
    """No stone lies there."""


class NoEntry(CreelError):
    """The log has no entry of this number."""


class NotWalk(CreelError):
    """The entry of the log is no walk."""


class Clash(CreelError):
    """An entry of the log could no longer be done; `at` is its number, from 0."""

    def __init__(self, at):
        CreelError.__init__(self, f"entry {at} of the log could no longer be done")
        self.at = at


class NothingLeft(CreelError):
    """There is no deed to take back or to do again."""


class BadText(CreelError):
    """A line can't be read; `at` is its number, from 0."""

    def __init__(self, at):
        CreelError.__init__(self, f"line {at} can't be read")
        self.at = at
