"""Cups: each keeps a few entries of a long row of readings."""

from rankbounds.entries import ahead_of, exact, halved, joined, nearest
from rankbounds.errors import BadKeep, BadTimes, UnlikeCups
from rankbounds.limits import check_place, check_reading, is_whole

GREATEST_KEEP = 64
GREATEST_TIMES = 10 ** 9


class Cup:
    """A row of readings, of which a few are kept.

    Fewer than keep readings are loose. The others are in blocks, each of keep
    entries: a block of place j is of keep times 2 ** j readings, and there is
    one for each digit 1 of the count divided by the keep, by its place.
    """

    def __init__(self, keep):
        if not is_whole(keep, 1, GREATEST_KEEP):
            raise BadKeep("a keep is a whole number from 1 to 64")
        self.keep = keep
        self._count = 0
        self._loose = []
        # By place. A block is never changed once it is made, so cups may share it.
        self._blocks = {}

    def add(self, reading, times):
        """A reading comes to the row so many times."""
        check_reading(reading)
        if not is_whole(times, 1, GREATEST_TIMES):
            raise BadTimes("a reading comes from 1 to 10 ** 9 times")
        for _ in range(times % self.keep):
            self._add_loose(reading)
        for place in _ones(times // self.keep):
            self._add_block(place, self._like_block(place, reading))
        self._count += times

    def pour(self, other):
        """All readings of the other cup's row come to this one's."""
        if other.keep != self.keep:
            raise UnlikeCups("a cup is poured into one of the same keep")
        # The other cup may be this one, so what it holds is taken before anything changes.
        loose = list(other._loose)
        blocks = list(other._blocks.items())
        count = other._count
        for reading in loose:
            self._add_loose(reading)
        for place, block in blocks:
            self._add_block(place, block)
        self._count += count

    def count(self):
        """How many readings the row has."""
        return self._count

    def off(self):
        """By how many places an answer may be off."""
        return sum([place * (1 << place) // 2 for place in _ones(self._count // self.keep)])

    def bound(self):
        """How many entries are kept at most."""
        return self.keep * len(_ones(self._count // self.keep)) + self._count % self.keep

    def kept(self):
        """The kept entries of the whole row, rising."""
        entries = []
        many = 0
        for part, more in self._parts():
            entries = joined(entries, many, part, more)
            many += more
        return entries

    def answer(self, place):
        """A kept reading whose place in the row is this one, or off by no more than off()."""
        check_place(place, self._count)
        return nearest(self.kept(), place)

    def ahead(self, reading):
        """At least and at most how many readings of the row are less than this one."""
        check_reading(reading)
        least = 0
        most = 0
        for part, many in self._parts():
            part_least, part_most = ahead_of(part, many, reading)
            least += part_least
            most += part_most
        return (least, most)

    def _parts(self):
        """Entries of the loose readings and of each block, with how many readings they are of."""
        parts = [(exact(self._loose), len(self._loose))]
        for place in sorted(self._blocks):
            parts.append((self._blocks[place], self.keep << place))
        return parts

    def _add_loose(self, reading):
        """Lay one reading to the loose ones, which make a block when there are enough."""
        self._loose.append(reading)
        if len(self._loose) == self.keep:
            block = exact(self._loose)
            self._loose = []
            self._add_block(0, block)

    def _add_block(self, place, block):
        """Lay a block in; two of one place make one of the next place."""
        while place in self._blocks:
            many = self.keep << place
            block = halved(joined(self._blocks.pop(place), many, block, many))
            place += 1
        self._blocks[place] = block

    def _like_block(self, place, reading):
        """The block of this place for a row of nothing but this reading."""
        # All others are no greater and none is less: true of each entry,
        # and never wider than what joining and halving would tell.
        return [(reading, (self.keep << place) - 1, 0)] * self.keep


def _ones(number):
    """The places of the digits 1 of a number in binary digits, rising."""
    return [place for place in range(number.bit_length()) if (number >> place) % 2 == 1]
