"""The refusals of Creelway, one class for each."""


class CreelError(ValueError):
    """Any refusal; `word` is the name of its class."""

    def __init__(self, why="", word="CreelError"):
        ValueError.__init__(self, why)
        self.word = word


class TooMany(CreelError):
    """There are more than 60 stones."""

    def __init__(self, why=""):
        CreelError.__init__(self, why, "TooMany")


class BadRow(CreelError):
    """A place of a row isn't above the one ahead of it; `at` is its number in the list, from 0."""

    def __init__(self, at):
        CreelError.__init__(self, f"place {at} of the row isn't above the one ahead of it", "BadRow")
        self.at = at


class BadCreel(CreelError):
    """A creel's size is below 1."""

    def __init__(self, why=""):
        CreelError.__init__(self, why, "BadCreel")


class BadTrains(CreelError):
    """A train's size is below 1; `at` is its number in the list, from 0."""

    def __init__(self, at):
        CreelError.__init__(self, f"train {at} has a size below 1", "BadTrains")
        self.at = at


class BadSizes(CreelError):
    """A size is below 1; `at` is its number in the list, from 0."""

    def __init__(self, at):
        CreelError.__init__(self, f"size {at} is below 1", "BadSizes")
        self.at = at


class BadNumber(CreelError):
    """A number lies outside what is asked for."""

    def __init__(self, why=""):
        CreelError.__init__(self, why, "BadNumber")


class TooNear(CreelError):
    """The gap is less than the row that is laid behind has stones."""

    def __init__(self, why=""):
        CreelError.__init__(self, why, "TooNear")


class Bare(CreelError):
    """A row is without stones where some are asked for."""

    def __init__(self, why=""):
        CreelError.__init__(self, why, "Bare")


class BadName(CreelError):
    """A road can't have this name."""

    def __init__(self, why=""):
        CreelError.__init__(self, why, "BadName")


class Taken(CreelError):
    """Another road has this name."""

    def __init__(self, why=""):
        CreelError.__init__(self, why, "Taken")


class Full(CreelError):
    """The house has no room for another road."""

    def __init__(self, why=""):
        CreelError.__init__(self, why, "Full")


class NoRoad(CreelError):
    """No road has this name."""

    def __init__(self, why=""):
        CreelError.__init__(self, why, "NoRoad")


class Laid(CreelError):
    """A stone lies there."""

    def __init__(self, why=""):
        CreelError.__init__(self, why, "Laid")


class NoStone(CreelError):
    """No stone lies there."""

    def __init__(self, why=""):
        CreelError.__init__(self, why, "NoStone")


class NoEntry(CreelError):
    """The log has no entry of this number."""

    def __init__(self, why=""):
        CreelError.__init__(self, why, "NoEntry")


class NotWalk(CreelError):
    """The entry of the log is no walk."""

    def __init__(self, why=""):
        CreelError.__init__(self, why, "NotWalk")


class Clash(CreelError):
    """An entry of the log could no longer be done; `at` is its number, from 0."""

    def __init__(self, at):
        CreelError.__init__(self, f"entry {at} of the log could no longer be done", "Clash")
        self.at = at


class NothingLeft(CreelError):
    """There is no deed to take back or to do again."""

    def __init__(self, why=""):
        CreelError.__init__(self, why, "NothingLeft")


class BadText(CreelError):
    """A line can't be read; `at` is its number, from 0."""

    def __init__(self, at):
        CreelError.__init__(self, f"line {at} can't be read", "BadText")
        self.at = at
