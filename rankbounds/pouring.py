"""What is done with several cups."""

from rankbounds.cups import Cup
from rankbounds.entries import ahead_of
from rankbounds.errors import NoCups, NoReadings


def poured(cups):
    """A new cup, whose row is the rows of all these cups together."""
    if len(cups) == 0:
        raise NoCups("at least one cup is poured")
    together = Cup(cups[0].keep)
    for cup in cups:
        together.pour(cup)
    return together


def apart(one, other):
    """At least and at most how far the rows of two cups lie apart.

    For a number r that is the difference, without sign, of how many of the
    one's readings are less than r, times the other's count, and the same the
    other way about; of all r the one is taken for which it is greatest.
    """
    many = one.count()
    more = other.count()
    if many == 0 or more == 0:
        raise NoReadings("a row without readings is not told apart")
    ones = one.kept()
    others = other.kept()
    least = 0
    most = 0
    for number in _steps(ones + others):
        low, high = ahead_of(ones, many, number)
        other_low, other_high = ahead_of(others, more, number)
        least = max(least, low * more - other_high * many, other_low * many - high * more)
        most = max(most, high * more - other_low * many, other_high * many - low * more)
    return (least, most)


def _steps(entries):
    """Numbers among which each bound that the entries tell of any number is told."""
    # From one kept reading, itself left out, to the next one all bounds stay the same.
    readings = [entry[0] for entry in entries]
    return readings + [max(readings) + 1]
