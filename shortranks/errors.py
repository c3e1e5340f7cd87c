"""The errors that the package raises."""


class RankError(ValueError):
    """The base class of all errors here."""

    def __init__(self):
        """Take nothing; a class with fields has its own."""


class BadCount(RankError):
    """What should be a count is none, or would be too great."""


class BadEntries(RankError):
    """What should be entries are none: index tells the first thing that is wrong, None all of it."""

    def __init__(self, index):
        self.index = index


class BadSummary(RankError):
    """What should be a summary is none."""


class NoRow(RankError):
    """No row leaves the summary."""


class BadRank(RankError):
    """What should be a rank is none of the summary's."""


class BadValue(RankError):
    """What should be a value is none."""


class NoEntry(RankError):
    """The summary has no entry."""


class BadIndex(RankError):
    """What should be the index of an entry is none."""


class BadError(RankError):
    """What should be an error of ranks is none."""


class Full(RankError):
    """There would be too many entries."""


class BadRow(RankError):
    """What should be a row of numbers is none."""


class TooLong(RankError):
    """There are, or would be, too many numbers."""


class BadRanks(RankError):
    """What should be ranks of a row are none."""


class BadParts(RankError):
    """What should be a number of parts is none."""


class BadTold(RankError):
    """What should be told numbers are none: index tells the first thing that is wrong, None all of it."""

    def __init__(self, index):
        self.index = index


class InvalidText(RankError):
    """A text tells no summary: line and word, counted from 1, tell the first word that cannot stand."""

    def __init__(self, line, word):
        self.line = line
        self.word = word
