"""Points 2 and 3: the exact entries of a row."""

import unittest
from itertools import permutations

from rankbounds import entries
from rankbounds.entries import exact
from rows import GREATEST, LEAST, holds, rises, scattered, small_rows


class ExactEntries(unittest.TestCase):
    def test_no_reading(self):
        self.assertEqual(exact([]), [])

    def test_one_reading(self):
        self.assertEqual(exact([7]), [(7, 0, 0)])
        self.assertEqual(exact([0]), [(0, 0, 0)])
        self.assertEqual(exact([-7]), [(-7, 0, 0)])

    def test_several_readings(self):
        self.assertEqual(exact([30, 10, 20]), [(10, 0, 0), (20, 1, 1), (30, 2, 2)])

    def test_every_turn_gives_the_same(self):
        expected = [(-5, 0, 0), (0, 1, 1), (4, 2, 2), (4, 3, 3), (12, 4, 4)]
        for row in permutations([4, -5, 12, 0, 4]):
            self.assertEqual(exact(list(row)), expected)

    def test_like_readings_have_a_place_each(self):
        self.assertEqual(exact([5, 5]), [(5, 0, 0), (5, 1, 1)])
        self.assertEqual(
            exact([5, 2, 5, 2, 5]), [(2, 0, 0), (2, 1, 1), (5, 2, 2), (5, 3, 3), (5, 4, 4)]
        )

    def test_negative_readings_rise_by_their_worth(self):
        self.assertEqual(exact([-1, 1, -10, 10]), [(-10, 0, 0), (-1, 1, 1), (1, 2, 2), (10, 3, 3)])
        self.assertEqual(exact([-2, -3, -1]), [(-3, 0, 0), (-2, 1, 1), (-1, 2, 2)])

    def test_readings_rise_as_numbers_not_as_words(self):
        self.assertEqual(exact([10, 9, 100]), [(9, 0, 0), (10, 1, 1), (100, 2, 2)])

    def test_the_least_and_the_greatest_reading(self):
        self.assertEqual(
            exact([GREATEST, 0, LEAST]), [(LEAST, 0, 0), (0, 1, 1), (GREATEST, 2, 2)]
        )
        self.assertEqual(exact([GREATEST]), [(GREATEST, 0, 0)])
        self.assertEqual(exact([LEAST]), [(LEAST, 0, 0)])

    def test_great_readings_that_lie_close(self):
        self.assertEqual(
            exact([GREATEST, GREATEST - 1, LEAST + 1, LEAST, GREATEST - 2]),
            [
                (LEAST, 0, 0),
                (LEAST + 1, 1, 1),
                (GREATEST - 2, 2, 2),
                (GREATEST - 1, 3, 3),
                (GREATEST, 4, 4),
            ],
        )

    def test_ninety_readings(self):
        falling = list(range(89, -1, -1))
        self.assertEqual(exact(falling), [(place, place, place) for place in range(90)])
        row = scattered(90, 61)
        self.assertEqual(
            exact(row), [(reading, place, place) for place, reading in enumerate(sorted(row))]
        )
        self.assertEqual(exact([3] * 90), [(3, place, place) for place in range(90)])

    def test_somewhat_more_than_ninety_readings(self):
        self.assertEqual(exact(list(range(100))), [(place, place, place) for place in range(100)])

    def test_somewhat_greater_readings(self):
        self.assertEqual(
            exact([GREATEST + 2, LEAST - 2, GREATEST + 1]),
            [(LEAST - 2, 0, 0), (GREATEST + 1, 1, 1), (GREATEST + 2, 2, 2)],
        )

    def test_the_kinds_of_values(self):
        told = exact([3, 1, 2])
        self.assertIs(type(told), list)
        for entry in told:
            self.assertIs(type(entry), tuple)
            self.assertEqual([type(number) for number in entry], [int, int, int])

    def test_the_names_of_the_interface(self):
        self.assertEqual(entries.exact.__module__, "rankbounds.entries")
        self.assertEqual(exact(row=[2, 1]), [(1, 0, 0), (2, 1, 1)])

    def test_the_entries_of_small_rows_hold(self):
        for row in small_rows([-1, 0, 3], 6):
            told = exact(row)
            self.assertEqual([entry[0] for entry in told], row)
            self.assertTrue(rises(told))
            self.assertTrue(all(holds(entry, row) for entry in told))


class ExactChangesNothing(unittest.TestCase):
    def test_the_row_stays(self):
        for kept in ([], [7], [3, 1, 2], [5, 5, -5], scattered(90, 61)):
            row = list(kept)
            exact(row)
            self.assertEqual(row, kept)

    def test_what_was_told_stays_when_more_is_asked(self):
        first = exact([3, 1])
        second = exact([9, 8, 7])
        exact([])
        self.assertEqual(first, [(1, 0, 0), (3, 1, 1)])
        self.assertEqual(second, [(7, 0, 0), (8, 1, 1), (9, 2, 2)])

    def test_what_was_told_stays_when_the_row_changes(self):
        row = [3, 1]
        told = exact(row)
        row.append(0)
        self.assertEqual(told, [(1, 0, 0), (3, 1, 1)])
        self.assertEqual(exact(row), [(0, 0, 0), (1, 1, 1), (3, 2, 2)])

    def test_changing_what_was_told_changes_nothing(self):
        for row in ([], [7], [3, 1]):
            kept = list(row)
            expected = list(exact(row))
            before = exact(row)
            told = exact(row)
            told.insert(0, (0, 0, 0))
            told.append((99, 99, 99))
            self.assertEqual(row, kept)
            self.assertEqual(before, expected)
            self.assertEqual(exact(row), expected)


if __name__ == "__main__":
    unittest.main()
