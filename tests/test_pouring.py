"""Points 14 and 15: cups poured into a new one, and two cups told apart."""

import unittest
from itertools import product

from cup_rows import MANY, Row, brimming, check_cup, check_refused, filled, told_by
from rankbounds import pouring
from rankbounds.cups import Cup
from rankbounds.errors import NoCups, NoReadings, UnlikeCups
from rankbounds.pouring import apart, poured
from rows import GREATEST, LEAST, scattered, small_rows

KEEPS = (1, 2, 3, 8, 64)


class TheInterface(unittest.TestCase):
    def test_the_functions_stand_in_the_file(self):
        for name in ("poured", "apart"):
            self.assertEqual(getattr(pouring, name).__module__, "rankbounds.pouring")

    def test_the_names_of_the_arguments(self):
        cup = filled(3, [5, 7])
        self.assertEqual(poured(cups=[cup]).count(), 2)
        self.assertEqual(apart(one=cup, other=cup), (0, 0))


class Poured(unittest.TestCase):
    def test_one_cup(self):
        for keep in KEEPS:
            for readings in ([], [4], scattered(100, 31)):
                cup = filled(keep, readings)
                whole = poured([cup])
                self.assertIs(type(whole), Cup)
                self.assertIsNot(whole, cup)
                self.assertEqual(whole.keep, keep)
                check_cup(self, whole, Row(readings))

    def test_several_cups(self):
        for keep in KEEPS:
            for lengths in ((1, 1), (0, 5), (keep, keep), (keep - 1, 1, keep + 1), (90, 3, 41, 0, 7, 64)):
                hands = [scattered(length, 41 + length) for length in lengths]
                cups = [filled(keep, hand) for hand in hands]
                before = [told_by(cup) for cup in cups]
                whole = poured(cups)
                self.assertEqual(whole.keep, keep)
                check_cup(self, whole, Row([reading for hand in hands for reading in hand]))
                self.assertEqual([told_by(cup) for cup in cups], before)

    def test_cups_without_readings(self):
        whole = poured([Cup(5), Cup(5)])
        self.assertEqual((whole.keep, whole.count(), whole.kept()), (5, 0, []))

    def test_a_cup_twice_among_them(self):
        for keep in KEEPS:
            cup, row = brimming(keep, [(5, 7), (-1, MANY), (3, keep)])
            other, other_row = brimming(keep, [(4, 3), (-1, 12)])
            before = told_by(cup)
            expected = Row()
            for part in (row, other_row, row, row):
                expected.pour(part)
            check_cup(self, poured([cup, other, cup, cup]), expected)
            self.assertEqual(told_by(cup), before)

    def test_the_list_stays(self):
        cups = [filled(2, [1, 2, 3]), filled(2, [4]), Cup(2)]
        handed = list(cups)
        poured(handed)
        self.assertEqual(len(handed), 3)
        self.assertTrue(all(one is other for one, other in zip(handed, cups)))

    def test_what_comes_later_stays_apart(self):
        for keep in KEEPS:
            for length in (0, 1, keep - 1, keep, 2 * keep, 100):
                cup, other = filled(keep, scattered(length, 31)), filled(keep, scattered(50, 17))
                cups = [cup, other]
                whole = poured(cups)
                before, before_whole = [told_by(cup), told_by(other)], told_by(whole)
                for reading in scattered(2 * keep + 1, 23):
                    whole.add(reading, 3)
                whole.pour(whole)
                self.assertEqual([told_by(cup), told_by(other)], before)
                self.assertEqual(len(cups), 2)
                whole = poured(cups)
                self.assertEqual(told_by(whole), before_whole)
                for reading in scattered(2 * keep + 1, 23):
                    cup.add(reading, 3)
                other.pour(cup)
                cups.clear()
                self.assertEqual(told_by(whole), before_whole)

    def test_no_cups(self):
        check_refused(self, NoCups, poured, [])

    def test_unlike_keeps(self):
        for keeps in ((1, 2), (64, 63), (3, 3, 4), (3, 4, 3), (4, 3, 3), (2, 2, 2, 2, 2, 1)):
            for readings in ([], [7, 8, 9, 10]):
                cups = [filled(keep, readings) for keep in keeps]
                before = [cup.kept() for cup in cups]
                handed = list(cups)
                check_refused(self, UnlikeCups, poured, handed)
                self.assertEqual([cup.kept() for cup in cups], before)
                self.assertEqual([cup.count() for cup in cups], [len(readings)] * len(cups))
                self.assertTrue(all(one is other for one, other in zip(handed, cups)))


def apart_plainly(row, other):
    """The greatest difference over all numbers that matter: each reading and the one after it."""
    many, more = row.count(), other.count()
    numbers = {LEAST, GREATEST + 1}
    for reading in list(row.times) + list(other.times):
        numbers |= {reading - 1, reading, reading + 1}
    return max(abs(row.less(number) * more - other.less(number) * many) for number in numbers)


class Apart(unittest.TestCase):
    def check(self, one, row, other, other_row):
        plainly = apart_plainly(row, other_row)
        for told in (apart(one, other), apart(other, one)):
            self.assertIs(type(told), tuple)
            self.assertEqual([type(number) for number in told], [int, int])
            least, most = told
            self.assertLessEqual(least, plainly)
            self.assertLessEqual(plainly, most)
            self.assertLessEqual(most - least, one.off() * other.count() + other.off() * one.count())
            self.assertGreaterEqual(least, 0)

    def test_rows_of_which_all_is_kept_are_told_exactly(self):
        for readings, others, many in (
            ([1], [1], 0),
            ([1], [2], 1),
            ([2], [1], 1),
            ([1, 2], [1, 2, 1, 2], 0),
            ([1, 1, 2], [1, 2], 1),
            ([1, 2, 3], [4, 5], 6),
            ([LEAST], [GREATEST], 1),
            ([GREATEST], [GREATEST], 0),
            ([0, GREATEST], [0, 0], 2),
        ):
            for keep in (5, 64):
                one, other = filled(keep, readings), filled(8, others)
                self.assertEqual(apart(one, other), (many, many))
                self.assertEqual(apart(other, one), (many, many))

    def test_all_small_rows(self):
        rows = [row for row in small_rows([-1, 0, 2], 5) if row]
        for keep, other_keep in ((1, 1), (1, 2), (2, 3)):
            for readings, others in product(rows, rows):
                self.check(filled(keep, readings), Row(readings), filled(other_keep, others), Row(others))

    def test_rows_of_like_and_of_unlike_keeps(self):
        hands = [
            scattered(100, 37),
            [reading + 9 for reading in scattered(130, 41)],
            list(range(-60, 20)),
            list(range(200, 290)),
            [6] * 77,
            [LEAST, GREATEST] * 20,
            [3],
        ]
        for keep, other_keep in product(KEEPS, KEEPS):
            for at, readings in enumerate(hands):
                for others in hands[at:]:
                    self.check(filled(keep, readings), Row(readings), filled(other_keep, others), Row(others))

    def test_a_cup_and_itself(self):
        for keep in KEEPS:
            for readings in ([3], [6] * 77, scattered(100, 37), list(range(80))):
                cup, row = filled(keep, readings), Row(readings)
                before = told_by(cup)
                self.assertEqual(apart(cup, cup)[0], 0)
                self.check(cup, row, cup, row)
                self.assertEqual(told_by(cup), before)

    def test_like_rows_in_unlike_cups(self):
        readings = scattered(120, 53)
        for keep, other_keep in product(KEEPS, KEEPS):
            one, other = filled(keep, readings), filled(other_keep, readings[::-1])
            self.assertEqual(apart(one, other)[0], 0)
            self.check(one, Row(readings), other, Row(readings))

    def test_readings_that_come_many_times(self):
        for keep, other_keep in product(KEEPS, KEEPS):
            one, row = brimming(keep, [(5, MANY), (1, 3), (9, 1000), (-4, MANY - 1)])
            other, other_row = brimming(other_keep, [(4, 77), (5, 1), (-4, MANY), (30, 123_456)])
            self.check(one, row, other, other_row)
            one.pour(one)
            row.pour(row)
            self.check(one, row, other, other_row)

    def test_the_longest_rows(self):
        for keep in (1, 8, 64):
            one, row = brimming(keep, [(5, MANY), (1, 3), (9, 1000), (-4, MANY - 1)])
            other, other_row = brimming(64, [(4, 77), (5, 1), (-4, MANY), (30, 123_456)])
            for _ in range(25):
                one.pour(one)
                row.pour(row)
                other.pour(other)
                other_row.pour(other_row)
            self.check(one, row, other, other_row)

    def test_both_cups_stay(self):
        one, other = filled(3, scattered(50, 31)), filled(5, scattered(70, 17))
        before = [told_by(one), told_by(other)]
        first = apart(one, other)
        self.assertEqual(apart(one, other), first)
        self.assertEqual([told_by(one), told_by(other)], before)

    def test_a_row_without_readings(self):
        for keep, other_keep in ((3, 3), (3, 4), (1, 64)):
            empty, brim = Cup(keep), filled(other_keep, scattered(20, 9))
            before = told_by(brim)
            check_refused(self, NoReadings, apart, empty, brim)
            check_refused(self, NoReadings, apart, brim, empty)
            check_refused(self, NoReadings, apart, empty, Cup(other_keep))
            check_refused(self, NoReadings, apart, empty, empty)
            self.assertEqual(told_by(brim), before)
            self.assertEqual((empty.count(), empty.kept()), (0, []))


if __name__ == "__main__":
    unittest.main()
