"""The refusals of the program."""


class RankError(ValueError):
    """Any refusal."""


class BadKeep(RankError):
    """A keep that is no whole number from 1 to 64."""


class BadReading(RankError):
    """A reading that is no whole number from -(10 ** 18) to 10 ** 18."""


class BadTimes(RankError):
    """A number of times that is no whole number from 1 to 10 ** 9."""


class UnlikeCups(RankError):
    """Cups of unlike keeps, where like ones are asked for."""


class NoPlace(RankError):
    """A place that the row does not have, or a part of all that is none."""


class NoReadings(RankError):
    """A row without readings, where it must have some."""


class NoCups(RankError):
    """No cups, where there must be some."""
