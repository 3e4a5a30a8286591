"""Points 2 and 4: entries of two rows, joined."""

import unittest

from rankbounds import entries
from rankbounds.entries import exact, halved, joined
from rows import GREATEST, LEAST, holds, rises, scattered, small_rows


def lifted_plainly(entry, others, more):
    """One entry with what the other list adds, as point 4 words it."""
    reading, least, most = entry
    no_greater = [other for other in others if other[0] <= reading]
    no_less = [other for other in others if other[0] >= reading]
    if no_greater:
        least += no_greater[-1][1] + 1
    most += no_less[0][2] if no_less else more
    return (reading, least, most)


def joined_plainly(ones, many, others, more):
    """Point 4, one entry after the other."""
    first = [lifted_plainly(entry, others, more) for entry in ones]
    second = [lifted_plainly(entry, ones, many) for entry in others]
    told = []
    while first or second:
        if not second or (first and first[0][0] <= second[0][0]):
            told.append(first.pop(0))
        else:
            told.append(second.pop(0))
    return told


def loose_entries(row, seed):
    """Some entries of a rising row, with bounds that hold but are mostly not exact."""
    told = []
    for place, reading in enumerate(row):
        mark = place * 5 + seed
        if mark % 3:
            told.append((reading, max(0, place - mark % 4), place + mark % 5))
    return told


class JoinedWithAnEmptyList(unittest.TestCase):
    def test_both_empty(self):
        self.assertEqual(joined([], 0, [], 0), [])
        self.assertEqual(joined([], 3, [], 4), [])

    def test_the_second_row_has_no_readings(self):
        self.assertEqual(joined([(1, 0, 0), (2, 1, 1)], 2, [], 0), [(1, 0, 0), (2, 1, 1)])

    def test_the_first_row_has_no_readings(self):
        self.assertEqual(joined([], 0, [(1, 0, 0), (2, 1, 1)], 2), [(1, 0, 0), (2, 1, 1)])

    def test_the_second_row_has_readings_but_no_entries(self):
        self.assertEqual(joined([(1, 0, 0), (2, 1, 1)], 2, [], 5), [(1, 0, 5), (2, 1, 6)])

    def test_the_first_row_has_readings_but_no_entries(self):
        self.assertEqual(joined([], 5, [(1, 0, 0), (2, 1, 1)], 2), [(1, 0, 5), (2, 1, 6)])


class JoinedEntries(unittest.TestCase):
    def test_exact_entries_of_two_rows(self):
        self.assertEqual(
            joined([(1, 0, 0), (5, 1, 1)], 2, [(3, 0, 0), (8, 1, 1)], 2),
            [(1, 0, 0), (3, 1, 1), (5, 2, 2), (8, 3, 3)],
        )

    def test_all_of_one_row_below_the_other(self):
        low = [(1, 0, 0), (2, 1, 1)]
        high = [(8, 0, 0), (9, 1, 1), (10, 2, 2)]
        expected = [(1, 0, 0), (2, 1, 1), (8, 2, 2), (9, 3, 3), (10, 4, 4)]
        self.assertEqual(joined(low, 2, high, 3), expected)
        self.assertEqual(joined(high, 3, low, 2), expected)

    def test_nothing_is_added_to_least_where_none_is_no_greater(self):
        told = joined([(1, 4, 6)], 20, [(2, 7, 9), (3, 8, 11)], 30)
        self.assertEqual(told[0], (1, 4, 6 + 9))

    def test_the_count_is_added_to_most_where_none_is_no_less(self):
        told = joined([(2, 7, 9), (3, 8, 11)], 20, [(1, 4, 6)], 30)
        self.assertEqual(told, [(1, 4, 6 + 9), (2, 7 + 5, 9 + 30), (3, 8 + 5, 11 + 30)])

    def test_each_rows_own_count_is_added_to_the_other(self):
        self.assertEqual(joined([(9, 0, 3)], 100, [(1, 2, 5)], 7), [(1, 2, 8), (9, 3, 10)])
        self.assertEqual(joined([(1, 2, 5)], 100, [(9, 0, 3)], 7), [(1, 2, 8), (9, 3, 103)])

    def test_entries_with_bounds_that_are_not_exact(self):
        ones = [(10, 1, 4), (20, 5, 9), (30, 7, 12)]
        others = [(5, 0, 2), (15, 3, 3), (25, 4, 8)]
        self.assertEqual(
            joined(ones, 13, others, 10),
            [
                (5, 0, 2 + 4),
                (10, 1 + 0 + 1, 4 + 3),
                (15, 3 + 1 + 1, 3 + 9),
                (20, 5 + 3 + 1, 9 + 8),
                (25, 4 + 5 + 1, 8 + 12),
                (30, 7 + 4 + 1, 12 + 10),
            ],
        )

    def test_entries_that_are_only_some_of_their_rows(self):
        ones = [(4, 3, 3), (8, 7, 7)]
        others = [(6, 5, 5)]
        self.assertEqual(
            joined(ones, 10, others, 9), [(4, 3, 8), (6, 9, 12), (8, 13, 16)]
        )

    def test_negative_readings(self):
        self.assertEqual(
            joined([(-9, 0, 0), (-1, 1, 1), (1, 2, 2)], 3, [(-10, 0, 0), (-2, 1, 1), (0, 2, 2)], 3),
            [(-10, 0, 0), (-9, 1, 1), (-2, 2, 2), (-1, 3, 3), (0, 4, 4), (1, 5, 5)],
        )

    def test_the_least_and_the_greatest_reading(self):
        ones = [(LEAST, 0, 0), (GREATEST, 1, 1)]
        self.assertEqual(
            joined(ones, 2, ones, 2),
            [(LEAST, 1, 0), (LEAST, 1, 0), (GREATEST, 3, 2), (GREATEST, 3, 2)],
        )
        self.assertEqual(joined([(LEAST, 0, 0)], 1, [(GREATEST, 0, 0)], 1), [(LEAST, 0, 0), (GREATEST, 1, 1)])
        self.assertEqual(joined([(GREATEST, 0, 0)], 1, [(LEAST, 0, 0)], 1), [(LEAST, 0, 0), (GREATEST, 1, 1)])

    def test_great_readings_that_lie_close(self):
        self.assertEqual(
            joined([(LEAST + 1, 0, 0), (GREATEST, 1, 1)], 2, [(LEAST, 0, 0), (GREATEST - 1, 1, 1)], 2),
            [(LEAST, 0, 0), (LEAST + 1, 1, 1), (GREATEST - 1, 2, 2), (GREATEST, 3, 3)],
        )

    def test_great_counts(self):
        great = 10 ** 17
        self.assertEqual(
            joined([(1, great - 3, great - 1)], great, [(0, great - 5, great - 7)], great - 1),
            [(0, great - 5, 2 * great - 8), (1, 2 * great - 7, 2 * great - 2)],
        )

    def test_lists_of_fourteen(self):
        ones = halved(exact(scattered(28, 31)))
        others = halved(exact(scattered(29, 47)))
        self.assertEqual((len(ones), len(others)), (14, 14))
        self.assertEqual(joined(ones, 28, others, 29), joined_plainly(ones, 28, others, 29))

    def test_somewhat_more_than_fourteen(self):
        ones = exact(scattered(40, 31))
        others = exact(scattered(25, 47))
        self.assertEqual(joined(ones, 40, others, 25), joined_plainly(ones, 40, others, 25))

    def test_somewhat_greater_readings(self):
        self.assertEqual(
            joined([(GREATEST + 2, 0, 0)], 1, [(LEAST - 2, 0, 0), (GREATEST + 1, 1, 1)], 2),
            [(LEAST - 2, 0, 0), (GREATEST + 1, 1, 1), (GREATEST + 2, 2, 2)],
        )

    def test_the_kinds_of_values(self):
        self.assertEqual(entries.joined.__module__, "rankbounds.entries")
        for told in (
            joined(ones=[], many=0, others=[], more=0),
            joined(ones=[(1, 0, 0)], many=1, others=[], more=0),
            joined(ones=[(1, 0, 0)], many=1, others=[(0, 0, 0)], more=2),
        ):
            self.assertIs(type(told), list)
            for entry in told:
                self.assertIs(type(entry), tuple)
                self.assertEqual([type(number) for number in entry], [int, int, int])


class JoinedLikeReadings(unittest.TestCase):
    def test_of_both_lists_the_first_rows_stand_ahead(self):
        self.assertEqual(joined([(5, 0, 0)], 1, [(5, 3, 1)], 8), [(5, 4, 1), (5, 4, 1)])
        self.assertEqual(joined([(5, 0, 6)], 7, [(5, 3, 1)], 8), [(5, 4, 7), (5, 4, 7)])
        told = joined([(5, 0, 0), (6, 4, 4)], 9, [(5, 1, 1), (5, 2, 2)], 8)
        self.assertEqual(told, [(5, 3, 1), (5, 2, 1), (5, 3, 2), (6, 7, 12)])

    def test_the_turn_of_the_rows_tells(self):
        ones = [(5, 10, 20), (5, 11, 30)]
        others = [(5, 1, 2), (5, 4, 3)]
        self.assertEqual(
            joined(ones, 100, others, 50), [(5, 15, 22), (5, 16, 32), (5, 13, 22), (5, 16, 23)]
        )
        self.assertEqual(
            joined(others, 50, ones, 100), [(5, 13, 22), (5, 16, 23), (5, 15, 22), (5, 16, 32)]
        )

    def test_each_lists_entries_keep_their_turn(self):
        ones = [(5, 9, 9), (5, 2, 2), (5, 7, 0)]
        others = [(4, 0, 0), (6, 5, 5)]
        self.assertEqual(
            joined(ones, 20, others, 20),
            [(4, 0, 9), (5, 10, 14), (5, 3, 7), (5, 8, 5), (6, 13, 25)],
        )
        self.assertEqual(
            joined(others, 20, ones, 20),
            [(4, 0, 9), (5, 10, 14), (5, 3, 7), (5, 8, 5), (6, 13, 25)],
        )

    def test_least_is_of_the_last_like_one_and_most_of_the_first(self):
        others = [(5, 3, 1), (5, 9, 8), (5, 1, 4)]
        told = joined([(5, 0, 0)], 1, others, 12)
        self.assertEqual(told[0], (5, 0 + 1 + 1, 0 + 1))
        told = joined(others, 12, [(5, 0, 0)], 1)
        self.assertEqual(told[3], (5, 0 + 1 + 1, 0 + 1))

    def test_the_bound_taken_is_the_nearest_ones_even_where_another_tells_more(self):
        others = [(1, 8, 2), (2, 3, 9), (7, 9, 12), (8, 11, 10)]
        told = joined([(4, 0, 0)], 1, others, 15)
        self.assertEqual(told[2], (4, 4, 12))

    def test_a_like_reading_is_no_greater_and_no_less(self):
        others = [(3, 2, 2), (5, 4, 4), (7, 6, 6)]
        told = joined([(5, 0, 0)], 1, others, 9)
        self.assertEqual(told[1], (5, 5, 4))
        self.assertEqual(told, [(3, 2, 2), (5, 5, 4), (5, 5, 4), (7, 7, 7)])

    def test_like_entries_all_stay(self):
        self.assertEqual(len(joined([(5, 0, 0)] * 3, 3, [(5, 0, 0)] * 4, 4)), 7)


class JoinedByThePointsWords(unittest.TestCase):
    def test_small_rows_either_way_about(self):
        rows = small_rows([-2, 0, 1], 4)
        for row in rows:
            for other in rows:
                ones = loose_entries(row, len(other))
                others = loose_entries(other, len(row) + 1)
                many, more = len(row) + 2, len(other) + 5
                self.assertEqual(
                    joined(ones, many, others, more), joined_plainly(ones, many, others, more)
                )
                self.assertEqual(
                    joined(others, more, ones, many), joined_plainly(others, more, ones, many)
                )

    def test_the_entries_hold_for_both_rows_together(self):
        rows = small_rows([-2, 0, 1], 4)
        for row in rows:
            for other in rows:
                for ones in (exact(row), halved(exact(row)), loose_entries(row, 1)):
                    for others in (exact(other), loose_entries(other, 2)):
                        told = joined(ones, len(row), others, len(other))
                        self.assertTrue(rises(told))
                        self.assertEqual(len(told), len(ones) + len(others))
                        self.assertTrue(all(holds(entry, row + other) for entry in told))

    def test_three_rows_one_by_one(self):
        first, second, third = scattered(9, 13), scattered(11, 17), scattered(10, 7)
        told = joined(exact(first), 9, halved(exact(second)), 11)
        told = halved(joined(told, 20, exact(third), 10))
        self.assertEqual(len(told), 12)
        self.assertTrue(rises(told))
        self.assertTrue(all(holds(entry, first + second + third) for entry in told))


class JoinedChangesNothing(unittest.TestCase):
    PAIRS = (
        ([], []),
        ([(1, 0, 0)], []),
        ([], [(1, 0, 0)]),
        ([(1, 0, 0), (5, 1, 3)], [(5, 0, 0), (5, 1, 1), (9, 4, 4)]),
        ([(7, 2, 2)], [(1, 0, 0), (2, 3, 4)]),
    )

    def cases(self):
        """Each pair with as many readings in the rows as entries, and with more."""
        return [
            (one, many, other, more)
            for one, other in self.PAIRS
            for many in (len(one), 12)
            for more in (len(other), 14)
        ]

    def test_both_lists_stay(self):
        for one, many, other, more in self.cases():
            ones, others = list(one), list(other)
            joined(ones, many, others, more)
            self.assertEqual((ones, others), (one, other))

    def test_a_list_may_be_joined_to_itself(self):
        ones = [(1, 0, 0), (5, 1, 1)]
        self.assertEqual(joined(ones, 2, ones, 2), [(1, 1, 0), (1, 1, 0), (5, 3, 2), (5, 3, 2)])
        self.assertEqual(ones, [(1, 0, 0), (5, 1, 1)])

    def test_what_was_told_is_the_askers_own(self):
        for one, many, other, more in self.cases():
            ones, others = list(one), list(other)
            expected = list(joined(ones, many, others, more))
            before = joined(ones, many, others, more)
            told = joined(ones, many, others, more)
            told.append((99, 99, 99))
            told.insert(0, (-99, 0, 0))
            self.assertEqual((ones, others), (one, other))
            self.assertEqual(before, expected)
            self.assertEqual(joined(ones, many, others, more), expected)

    def test_what_was_told_stays_when_more_is_done(self):
        ones, others = [(1, 0, 0)], [(2, 0, 0)]
        told = joined(ones, 1, others, 1)
        ones.append((3, 1, 1))
        others.clear()
        self.assertEqual(joined(ones, 2, others, 0), [(1, 0, 0), (3, 1, 1)])
        self.assertEqual(told, [(1, 0, 0), (2, 1, 1)])


if __name__ == "__main__":
    unittest.main()
