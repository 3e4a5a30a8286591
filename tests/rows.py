"""What several tests use: readings, small rows, and what an entry says of a row."""

from itertools import combinations_with_replacement

LEAST = -(10 ** 18)
GREATEST = 10 ** 18


def small_rows(readings, longest):
    """All rows of up to so many of these readings, rising."""
    return [
        list(row)
        for length in range(longest + 1)
        for row in combinations_with_replacement(readings, length)
    ]


def scattered(count, spread):
    """So many readings, some below 0 and some like ones, in no order."""
    return [(place * 7919 + 104729) % spread - spread // 2 for place in range(count)]


def holds(entry, row):
    """Whether an entry says the truth of a row (point 2)."""
    reading, least, most = entry
    if reading not in row:
        return False
    no_greater = len([one for one in row if one <= reading]) - 1
    less = len([one for one in row if one < reading])
    return least <= no_greater and less <= most


def rises(entries):
    return all(one[0] <= next_one[0] for one, next_one in zip(entries, entries[1:]))
