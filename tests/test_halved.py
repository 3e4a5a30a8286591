"""Point 5: every second entry."""

import unittest

from rankbounds import entries
from rankbounds.entries import exact, halved
from rows import GREATEST, LEAST

A = (-4, 0, 3)
B = (0, 5, 2)
C = (0, 2, 9)
D = (6, 11, 10)
E = (7, 11, 17)


class Halved(unittest.TestCase):
    def test_none(self):
        self.assertEqual(halved([]), [])

    def test_one(self):
        self.assertEqual(halved([A]), [])

    def test_two(self):
        self.assertEqual(halved([A, B]), [B])

    def test_three(self):
        self.assertEqual(halved([A, B, C]), [B])

    def test_several(self):
        self.assertEqual(halved([A, B, C, D]), [B, D])
        self.assertEqual(halved([A, B, C, D, E]), [B, D])

    def test_ninety(self):
        told = halved(exact(list(range(90))))
        self.assertEqual(told, [(place, place, place) for place in range(1, 90, 2)])
        self.assertEqual(len(told), 45)
        self.assertEqual(halved(exact(list(range(89)))), told[:-1])

    def test_somewhat_more_than_ninety(self):
        told = halved(exact(list(range(101))))
        self.assertEqual(told, [(place, place, place) for place in range(1, 101, 2)])

    def test_like_entries_stay_by_their_place(self):
        self.assertEqual(halved([B, B, B, B]), [B, B])
        self.assertEqual(halved([B, C, B, C]), [C, C])
        self.assertEqual(halved([C, B, C, B]), [B, B])

    def test_bounds_and_great_readings_stay_as_they_are(self):
        low = (LEAST, 0, 10 ** 17)
        high = (GREATEST, 10 ** 17, 10 ** 17 - 1)
        self.assertEqual(halved([low, high]), [high])
        self.assertEqual(halved([low, low, high, high]), [low, high])

    def test_the_kinds_of_values(self):
        self.assertEqual(entries.halved.__module__, "rankbounds.entries")
        for given in ([], [A], [A, B], [A, B, C, D]):
            told = halved(entries=given)
            self.assertIs(type(told), list)
            for entry in told:
                self.assertIs(type(entry), tuple)
                self.assertEqual([type(number) for number in entry], [int, int, int])


class HalvedChangesNothing(unittest.TestCase):
    def test_the_list_handed_in_stays(self):
        for kept in ([], [A], [A, B], [A, B, C], [A, B, C, D, E]):
            given = list(kept)
            halved(given)
            self.assertEqual(given, kept)

    def test_what_was_told_is_the_askers_own(self):
        for kept in ([], [A], [A, B], [A, B, C, D]):
            given = list(kept)
            expected = list(halved(given))
            before = halved(given)
            told = halved(given)
            told.append(E)
            told.insert(0, E)
            self.assertEqual(given, kept)
            self.assertEqual(before, expected)
            self.assertEqual(halved(given), expected)

    def test_what_was_told_stays_when_more_is_done(self):
        given = [A, B]
        told = halved(given)
        given.extend([C, D])
        self.assertEqual(halved(given), [B, D])
        halved([E, E])
        self.assertEqual(told, [B])


if __name__ == "__main__":
    unittest.main()
