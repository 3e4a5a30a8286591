"""Entries of a row: readings of it, each with bounds for its place.

An entry is a tuple (reading, least, most): at least `least` other readings
of the row are no greater, at most `most` readings of the row are less.
"""


def exact(row):
    """The entries of a row, rising, whose bounds both are the reading's place."""
    return [(reading, place, place) for place, reading in enumerate(sorted(row))]


def joined(ones, many, others, more):
    """Entries of two rows, of `many` and of `more` readings, as entries of both rows together."""
    both = _lifted(ones, others, more) + _lifted(others, ones, many)
    # sorted leaves like readings in their turn, so those of the first row stay ahead.
    return sorted(both, key=lambda entry: entry[0])


def halved(entries):
    """Every second entry: the second, the fourth and so on."""
    return entries[1::2]


def ahead_of(entries, many, reading):
    """At least and at most how many of a row's `many` readings are less than this one."""
    return (_least_less(entries, reading), _most_less(entries, many, reading))


def nearest(entries, place):
    """The reading of the entry that by its bounds is off this place by the least."""
    found = min(entries, key=lambda entry: max(place - entry[1], entry[2] - place))
    return found[0]


def _lifted(entries, others, more):
    """Entries with what the other row, of `more` readings, adds to their bounds."""
    # Readings are whole numbers: what is no greater than one is less than the next.
    return [
        (reading, least + _least_less(others, reading + 1), most + _most_less(others, more, reading))
        for reading, least, most in entries
    ]


def _least_less(entries, reading):
    """How many readings of a row, at least, are less than this one."""
    place = _first_no_less(entries, reading)
    if place == 0:
        return 0
    return entries[place - 1][1] + 1


def _most_less(entries, many, reading):
    """How many of a row's `many` readings, at most, are less than this one."""
    place = _first_no_less(entries, reading)
    if place == len(entries):
        return many
    return entries[place][2]


def _first_no_less(entries, reading):
    """Where the first entry stands whose reading is no less, or the count of the entries."""
    low = 0
    high = len(entries)
    while low < high:
        middle = (low + high) // 2
        if entries[middle][0] < reading:
            low = middle + 1
        else:
            high = middle
    return low
