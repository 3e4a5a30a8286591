"""Points 6 and 7: a cup's keep, its count, its off and its bound, and what is refused to come to it."""

import unittest

from cup_rows import (
    MANY,
    NO_NUMBERS,
    NO_READINGS,
    NO_TIMES,
    bound_plainly,
    brimming,
    check_cup,
    check_refused,
    check_sizes,
    filled,
    off_plainly,
    told_by,
)
from rankbounds import cups
from rankbounds.cups import Cup
from rankbounds.errors import BadKeep, BadReading, BadTimes, UnlikeCups
from rows import GREATEST, LEAST, scattered

KEEPS = (1, 2, 3, 4, 7, 8, 31, 63, 64)


class TheInterface(unittest.TestCase):
    def test_the_class_and_its_methods_stand_in_the_file(self):
        self.assertEqual(Cup.__module__, "rankbounds.cups")
        self.assertIs(cups.Cup, Cup)
        for name in ("add", "pour", "count", "off", "bound", "kept", "answer", "ahead"):
            self.assertIn(name, vars(Cup))

    def test_the_names_of_the_arguments(self):
        cup = Cup(keep=2)
        self.assertIsNone(cup.add(reading=5, times=3))
        self.assertIsNone(cup.pour(other=cup))
        self.assertEqual(cup.answer(place=0), 5)
        self.assertEqual(cup.ahead(reading=5), (0, 0))

    def test_the_keep_is_a_field(self):
        for keep in range(1, 65):
            self.assertEqual(Cup(keep).keep, keep)
            self.assertIn("keep", vars(Cup(keep)))

    def test_a_new_cup_has_a_row_without_readings(self):
        for keep in range(1, 65):
            cup = Cup(keep)
            self.assertEqual((cup.count(), cup.off(), cup.bound(), cup.kept()), (0, 0, 0, []))
            self.assertEqual([cup.ahead(reading) for reading in (LEAST, 0, GREATEST)], [(0, 0)] * 3)


class BadKeeps(unittest.TestCase):
    def test_what_is_no_keep(self):
        for keep in NO_NUMBERS + (0, -1, -64, 65, 66, 10 ** 9, 10 ** 30):
            check_refused(self, BadKeep, Cup, keep)

    def test_the_edges_are_keeps(self):
        self.assertEqual([Cup(keep).keep for keep in (1, 2, 63, 64)], [1, 2, 63, 64])


class Counts(unittest.TestCase):
    def test_a_reading_that_comes_so_many_times(self):
        for keep in KEEPS:
            for times in {1, 2, max(1, keep - 1), keep, keep + 1, 2 * keep, MANY - 1, MANY}:
                with self.subTest(keep=keep, times=times):
                    cup = Cup(keep)
                    self.assertIsNone(cup.add(-3, times))
                    self.assertEqual(cup.count(), times)
                    cup.add(-3, times)
                    self.assertEqual(cup.count(), 2 * times)
                    cup.add(4, 1)
                    self.assertEqual(cup.count(), 2 * times + 1)

    def test_readings_that_come_one_by_one(self):
        for keep in KEEPS:
            cup = Cup(keep)
            for place, reading in enumerate(scattered(200, 37)):
                cup.add(reading, 1)
                self.assertEqual(cup.count(), place + 1)

    def test_the_edges_of_what_may_come(self):
        cup = Cup(3)
        for reading in (LEAST, LEAST + 1, 0, GREATEST - 1, GREATEST):
            for times in (1, MANY):
                cup.add(reading, times)
        self.assertEqual(cup.count(), 5 * (1 + MANY))

    def test_a_cup_that_is_poured_into_another_one(self):
        for keep in KEEPS:
            for many in (0, 1, keep - 1, keep, keep + 1, 3 * keep, 100):
                for more in (0, 1, keep - 1, keep, keep + 1, 5 * keep, 70):
                    cup, other = filled(keep, scattered(many, 31)), filled(keep, scattered(more, 17))
                    before = told_by(other)
                    self.assertIsNone(cup.pour(other))
                    self.assertEqual(cup.count(), many + more)
                    self.assertEqual(told_by(other), before)

    def test_a_cup_that_is_poured_into_itself(self):
        for keep in KEEPS:
            for many in (0, 1, keep - 1, keep, keep + 1, 3 * keep, 100):
                cup = filled(keep, scattered(many, 31))
                for fold in (2, 4, 8):
                    self.assertIsNone(cup.pour(cup))
                    self.assertEqual(cup.count(), fold * many)

    def test_a_cup_that_is_poured_into_itself_has_each_reading_twice_as_often(self):
        for keep in KEEPS:
            cup, row = brimming(keep, [(5, 1), (-2, 3), (9, keep), (0, 2)])
            for _ in range(5):
                cup.pour(cup)
                row.pour(row)
                check_cup(self, cup, row)

    def test_the_other_cup_stays_whatever_comes_later(self):
        for keep in KEEPS:
            cup, other = filled(keep, scattered(50, 31)), filled(keep, scattered(77, 17))
            before = told_by(other)
            cup.pour(other)
            for reading in scattered(150, 23):
                cup.add(reading, 2)
            cup.pour(cup)
            self.assertEqual(told_by(other), before)
            poured_into = told_by(cup)
            for reading in scattered(150, 29):
                other.add(reading, 3)
            other.pour(other)
            self.assertEqual(told_by(cup), poured_into)

    def test_a_cup_comes_on_as_one_that_was_not_poured(self):
        for keep in (1, 2, 3, 8):
            cup, twin, other = (filled(keep, scattered(45, 19)) for _ in range(3))
            other.pour(cup)
            for reading in scattered(60, 11):
                cup.add(reading, 1)
                twin.add(reading, 1)
            self.assertEqual(told_by(cup), told_by(twin))

    def test_the_longest_row(self):
        for keep in KEEPS:
            cup, row = brimming(keep, [(7, MANY), (-7, MANY // 2), (0, MANY // 2)])
            while 2 * row.count() <= 10 ** 17:
                cup.pour(cup)
                row.pour(row)
            self.assertGreater(row.count(), 10 ** 17 // 2)
            check_cup(self, cup, row)

    def test_somewhat_longer_rows(self):
        cup = Cup(5)
        cup.add(1, MANY)
        for _ in range(30):
            cup.pour(cup)
        self.assertEqual(cup.count(), MANY * 2 ** 30)
        self.assertEqual(cup.off(), off_plainly(MANY * 2 ** 30, 5))


class RefusedToCome(unittest.TestCase):
    def test_what_is_no_reading(self):
        cup = filled(3, [4, 5, 6, 7])
        for reading in NO_READINGS:
            check_refused(self, BadReading, cup.add, reading, 1)

    def test_what_is_no_number_of_times(self):
        cup = filled(3, [4, 5, 6, 7])
        for times in NO_TIMES:
            check_refused(self, BadTimes, cup.add, 4, times)

    def test_bad_reading_stands_ahead_of_bad_times(self):
        cup = filled(3, [4, 5, 6, 7])
        for reading in NO_READINGS:
            for times in NO_TIMES:
                check_refused(self, BadReading, cup.add, reading, times)

    def test_unlike_keeps(self):
        for keep in KEEPS:
            for other_keep in KEEPS:
                if keep != other_keep:
                    for readings in ([], [1, 2, 3]):
                        cup, other = filled(keep, [4, 5]), filled(other_keep, readings)
                        check_refused(self, UnlikeCups, cup.pour, other)
                        check_refused(self, UnlikeCups, Cup(keep).pour, other)

    def test_what_is_refused_changes_nothing(self):
        for keep in KEEPS:
            for many in (0, 1, keep - 1, keep, 40):
                cup, twin = filled(keep, scattered(many, 13)), filled(keep, scattered(many, 13))
                other, other_twin = filled(keep % 64 + 1, [8, 9]), filled(keep % 64 + 1, [8, 9])
                for reading in NO_READINGS:
                    check_refused(self, BadReading, cup.add, reading, 7)
                for times in NO_TIMES:
                    check_refused(self, BadTimes, cup.add, 2, times)
                check_refused(self, UnlikeCups, cup.pour, other)
                self.assertEqual(told_by(cup), told_by(twin))
                self.assertEqual(told_by(other), told_by(other_twin))
                for reading in scattered(2 * keep + 1, 9):
                    cup.add(reading, 1)
                    twin.add(reading, 1)
                    other.add(reading, 1)
                    other_twin.add(reading, 1)
                self.assertEqual(told_by(cup), told_by(twin))
                self.assertEqual(told_by(other), told_by(other_twin))


class OffAndBound(unittest.TestCase):
    def test_worked_by_hand(self):
        # Count, keep, off, bound: 27 readings by 4 are 6, written 110, and 3 are left.
        for count, keep, off, bound in (
            (27, 4, 1 + 4, 8 + 3),
            (8, 1, 12, 1),
            (7, 1, 0 + 1 + 4, 3),
            (1, 1, 0, 1),
            (2, 1, 1, 1),
            (3, 1, 1, 2),
            (63, 64, 0, 63),
            (64, 64, 0, 64),
            (127, 64, 0, 127),
            (128, 64, 1, 64),
            (3 * 64 + 5, 64, 0 + 1, 128 + 5),
            (1024 * 5, 5, 5 * 1024, 5),
        ):
            with self.subTest(count=count, keep=keep):
                cup = Cup(keep)
                cup.add(9, count)
                self.assertEqual((cup.off(), cup.bound()), (off, bound))

    def test_all_short_counts_by_all_keeps(self):
        for keep in range(1, 65):
            cup = Cup(keep)
            for count in range(1, 5 * keep + 40):
                cup.add(count * 7919 % 31, 1)
                self.assertEqual(
                    (cup.count(), cup.off(), cup.bound()),
                    (count, off_plainly(count, keep), bound_plainly(count, keep)),
                )

    def test_great_counts(self):
        for keep in KEEPS:
            for times in (1, keep, 999_999_937, 123_456_789, MANY - 1, MANY):
                cup, row = brimming(keep, [(3, times)])
                while row.count() <= 10 ** 17:
                    check_sizes(self, cup, row)
                    cup.pour(cup)
                    row.pour(row)
                    if row.count() % 3 == 0:
                        cup.add(4, MANY - 7)
                        row.add(4, MANY - 7)

    def test_off_is_no_more_of_the_count_than_the_document_adds(self):
        for keep in KEEPS:
            cup = Cup(keep)
            for times in (keep, 1, 5 * keep + 1, 999_983, MANY):
                cup.add(1, times)
                greatest = (cup.count() // keep).bit_length() - 1
                self.assertLessEqual(cup.off() * 2 * keep, cup.count() * greatest)


if __name__ == "__main__":
    unittest.main()
