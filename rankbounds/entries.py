"""Entries of a row: readings of it, each with bounds for its place.

An entry is a tuple (reading, least, most): at least `least` other readings
of the row are no greater, at most `most` readings of the row are less.
"""


def exact(row):
    """The entries of a row, rising, whose bounds both are the reading's place."""
    return [(reading, place, place) for place, reading in enumerate(sorted(row))]


def joined(ones, many, others, more):
    """Entries of two rows, of `many` and of `more` readings, as entries of both rows together."""
    both = _lifted(ones, others, more) + _lifted(others, ones, many)
    # sorted leaves like readings in their turn, so those of the first row stay ahead.
    return sorted(both, key=lambda entry: entry[0])


def halved(entries):
    """Every second entry: the second, the fourth and so on."""
    return entries[1::2]


def _lifted(entries, others, more):
    """Entries with what the other row, of `more` readings, adds to their bounds."""
    return [
        (reading, least + _added_to_least(reading, others), most + _added_to_most(reading, others, more))
        for reading, least, most in entries
    ]


def _added_to_least(reading, others):
    """How many readings of the other row, at least, are no greater than this reading."""
    # Readings are whole numbers: what is no greater than one is less than the next.
    place = _first_no_less(others, reading + 1)
    if place == 0:
        return 0
    return others[place - 1][1] + 1


def _added_to_most(reading, others, more):
    """How many readings of the other row, at most, are less than this reading."""
    place = _first_no_less(others, reading)
    if place == len(others):
        return more
    return others[place][2]


def _first_no_less(entries, reading):
    """Where the first entry stands whose reading is no less, or the count of the entries."""
    low = 0
    high = len(entries)
    while low < high:
        middle = (low + high) // 2
        if entries[middle][0] < reading:
            low = middle + 1
        else:
            high = middle
    return low
