"""What the tests of the cups use: rows beside the cups, and what the document says of a cup, reckoned plainly."""

from rankbounds.cups import Cup
from rankbounds.errors import RankError
from rows import GREATEST, LEAST, rises, scattered

MANY = 10 ** 9
# Rows up to this length are asked for all their places.
SHORT = 400
# Nothing of these is a whole number, whatever its limits.
NO_NUMBERS = (True, False, None, "", "1", "x", b"1", 1.0, 0.5, [], [1], (1,), {}, {1: 1}, {1})
NO_READINGS = NO_NUMBERS + (LEAST - 1, GREATEST + 1, -(10 ** 30), 10 ** 30)
NO_TIMES = NO_NUMBERS + (0, -1, MANY + 1, 10 ** 30)


class Row:
    """A row, told by how often each reading stands in it."""

    def __init__(self, readings=()):
        self.times = {}
        for reading in readings:
            self.add(reading, 1)

    def add(self, reading, times):
        self.times[reading] = self.times.get(reading, 0) + times

    def pour(self, other):
        for reading, times in list(other.times.items()):
            self.add(reading, times)

    def count(self):
        return sum(self.times.values())

    def less(self, reading):
        return sum(times for other, times in self.times.items() if other < reading)

    def no_greater(self, reading):
        return self.less(reading) + self.times.get(reading, 0)

    def off_by(self, reading, place):
        """How far from a place a reading stands in rising order."""
        return max(self.less(reading) - place, 0, place - (self.no_greater(reading) - 1))

    def places(self):
        """All places of a short row; of a long one those where another reading begins, and some between them."""
        count = self.count()
        if count <= SHORT:
            return list(range(count))
        found = {count * part // 40 for part in range(40)} | {0, count - 1}
        for reading in self.times:
            edge = self.less(reading)
            found |= {edge - 2, edge - 1, edge, edge + 1, edge + self.times[reading] // 2}
        return [place for place in sorted(found) if 0 <= place < count]

    def readings_about(self):
        """The readings of the row, those of one less and one more, and the limits."""
        found = {LEAST, LEAST + 1, -1, 0, 1, GREATEST - 1, GREATEST}
        for reading in self.times:
            found |= {reading - 1, reading, reading + 1}
        return [reading for reading in sorted(found) if LEAST <= reading <= GREATEST]


def digits_one(count, keep):
    """The places of the digits 1 of the quotient, the last digit's place being 0."""
    written = format(count // keep, "b")
    return [place for place, digit in enumerate(reversed(written)) if digit == "1"]


def off_plainly(count, keep):
    doubled = sum(place * 2 ** place for place in digits_one(count, keep))
    assert doubled % 2 == 0
    return doubled // 2


def bound_plainly(count, keep):
    return keep * len(digits_one(count, keep)) + count % keep


def filled(keep, readings):
    """A cup to which each of these readings came once, in their turn."""
    cup = Cup(keep)
    for reading in readings:
        cup.add(reading, 1)
    return cup


def brimming(keep, pairs):
    """A cup and its row, to which each reading of the pairs came so many times."""
    cup, row = Cup(keep), Row()
    for reading, times in pairs:
        cup.add(reading, times)
        row.add(reading, times)
    return cup, row


def coming_often(keep):
    """Readings, like ones among them, with how many times each comes: once, about the keep, and very often."""
    times = (1, keep, MANY, 2, keep + 1, 12345, max(1, keep - 1), MANY - 1)
    return [(reading, times[place % 8]) for place, reading in enumerate(scattered(60, 17))]


def told_by(cup):
    """All that a cup tells, of some places and readings."""
    count = cup.count()
    places = range(count) if count <= 60 else [count * part // 60 for part in range(60)]
    readings = [LEAST, -100, -7, -1, 0, 1, 2, 3, 5, 8, 9, 20, 100, GREATEST]
    return (
        cup.keep,
        count,
        cup.off(),
        cup.bound(),
        list(cup.kept()),
        [cup.answer(place) for place in places],
        [cup.ahead(reading) for reading in readings],
    )


def check_sizes(test, cup, row):
    """Points 6 and 7."""
    count = row.count()
    test.assertEqual(cup.count(), count)
    test.assertEqual(cup.off(), off_plainly(count, cup.keep))
    test.assertEqual(cup.bound(), bound_plainly(count, cup.keep))
    test.assertEqual([type(told) for told in (cup.count(), cup.off(), cup.bound())], [int] * 3)


def check_kept(test, cup, row):
    """Points 2 and 8."""
    kept = cup.kept()
    test.assertIs(type(kept), list)
    test.assertLessEqual(len(kept), cup.bound())
    test.assertTrue(rises(kept))
    for entry in kept:
        test.assertIs(type(entry), tuple)
        test.assertEqual([type(number) for number in entry], [int] * 3)
        reading, least, most = entry
        test.assertIn(reading, row.times)
        test.assertLessEqual(least, row.no_greater(reading) - 1)
        test.assertLessEqual(row.less(reading), most)


def check_answers(test, cup, row):
    """Point 9."""
    kept = [entry[0] for entry in cup.kept()]
    for place in row.places():
        told = cup.answer(place)
        test.assertIs(type(told), int)
        test.assertIn(told, row.times)
        test.assertIn(told, kept)
        test.assertLessEqual(row.off_by(told, place), cup.off())


def check_ahead(test, cup, row):
    """Point 10."""
    for reading in row.readings_about():
        told = cup.ahead(reading)
        test.assertIs(type(told), tuple)
        test.assertEqual([type(number) for number in told], [int] * 2)
        least, most = told
        test.assertLessEqual(least, row.less(reading))
        test.assertLessEqual(row.less(reading), most)
        test.assertLessEqual(most - least, cup.off())


def check_cup(test, cup, row):
    """Points 6 to 10, and the half of point 2 that is about cups."""
    check_sizes(test, cup, row)
    check_kept(test, cup, row)
    check_answers(test, cup, row)
    check_ahead(test, cup, row)


def check_refused(test, refusal, call, *handed):
    """That a call is refused with this class and no other."""
    with test.subTest(refusal=refusal.__name__, handed=handed):
        with test.assertRaises(RankError) as caught:
            call(*handed)
        test.assertIs(type(caught.exception), refusal)
