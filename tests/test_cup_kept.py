"""Points 2 and 8: the entries that a cup keeps."""

import unittest
from itertools import product

from cup_rows import Row, brimming, check_kept, coming_often, filled
from rankbounds.cups import Cup
from rows import GREATEST, LEAST, holds, rises, scattered

KEEPS = (1, 2, 3, 5, 8, 63, 64)


class KeptEntries(unittest.TestCase):
    def test_none_at_first(self):
        for keep in KEEPS:
            self.assertEqual(Cup(keep).kept(), [])

    def test_one_reading(self):
        for keep in KEEPS:
            self.assertEqual(filled(keep, [-4]).kept(), [(-4, 0, 0)])

    def test_rows_that_grow_one_by_one(self):
        turns = {
            "rising": list(range(-80, 80)),
            "falling": list(range(80, -80, -1)),
            "like": [6] * 160,
            "two by turns": [3, -3] * 80,
            "scattered": scattered(160, 1009),
            "scattered and like": scattered(160, 13),
            "great": [GREATEST - place * (-1) ** place * 10 ** 16 for place in range(160) if place % 2 == 0]
            + [LEAST, GREATEST, LEAST + 1, GREATEST - 1] * 20,
        }
        for name, readings in turns.items():
            for keep in KEEPS:
                with self.subTest(name, keep=keep):
                    cup, row = Cup(keep), Row()
                    for reading in readings:
                        cup.add(reading, 1)
                        row.add(reading, 1)
                        check_kept(self, cup, row)

    def test_by_a_plain_count_of_all_readings(self):
        for keep in (1, 2, 3):
            for length in range(1, 7):
                for readings in product([-1, 0, 4], repeat=length):
                    kept = filled(keep, readings).kept()
                    self.assertTrue(rises(kept))
                    self.assertTrue(all(holds(entry, list(readings)) for entry in kept))

    def test_readings_that_come_many_times(self):
        for keep in KEEPS:
            cup, row = Cup(keep), Row()
            for reading, times in coming_often(keep):
                cup.add(reading, times)
                row.add(reading, times)
                check_kept(self, cup, row)

    def test_cups_that_are_poured(self):
        for keep in KEEPS:
            cup, row = Cup(keep), Row()
            for length in (0, 1, keep - 1, keep, keep + 1, 90, 41):
                readings = scattered(length, 29)
                other = filled(keep, readings)
                cup.pour(other)
                row.pour(Row(readings))
                check_kept(self, cup, row)
                check_kept(self, other, Row(readings))

    def test_a_cup_that_is_poured_into_itself(self):
        for keep in KEEPS:
            cup, row = brimming(keep, [(5, 1), (2, 2), (9, keep), (-5, 3)])
            for _ in range(40):
                cup.pour(cup)
                row.pour(row)
                check_kept(self, cup, row)

    def test_what_is_kept_stays_whatever_is_asked(self):
        for keep in KEEPS:
            cup = filled(keep, scattered(100, 23))
            kept = list(cup.kept())
            for place in (99, 0, 50, 50):
                cup.answer(place)
            for reading in (LEAST, 0, GREATEST, -3):
                cup.ahead(reading)
            cup.count(), cup.off(), cup.bound()
            self.assertEqual(cup.kept(), kept)
            self.assertEqual(cup.kept(), kept)

    def test_a_cup_holds_no_more_readings_than_its_bound(self):
        # The fewness is promised of what is kept, not only of what kept() tells.
        for keep in KEEPS:
            cup = Cup(keep)
            for reading in scattered(300, 1009):
                cup.add(reading, 3)
                cup.answer(0)
                cup.kept()
                held = [
                    held
                    for field in vars(cup).values()
                    if isinstance(field, (list, dict))
                    for part in (field.values() if isinstance(field, dict) else [field])
                    for held in part
                ]
                self.assertLessEqual(len(held), cup.bound())


class KeptIsTheAskersOwn(unittest.TestCase):
    def test_a_list_that_was_told_may_be_changed(self):
        for keep in KEEPS:
            for length in (0, 1, keep - 1, keep, 2 * keep, 2 * keep + 1, 100):
                cup, twin = filled(keep, scattered(length, 31)), filled(keep, scattered(length, 31))
                for change in (
                    lambda told: told.append((0, 0, 0)),
                    lambda told: told.insert(0, (99, 0, 0)),
                    lambda told: told.clear(),
                    lambda told: told.reverse(),
                ):
                    change(cup.kept())
                    self.assertEqual(cup.kept(), twin.kept())
                    self.assertEqual(
                        [cup.answer(place) for place in range(length)],
                        [twin.answer(place) for place in range(length)],
                    )
                    self.assertEqual(cup.ahead(3), twin.ahead(3))
                cup.pour(cup)
                twin.pour(twin)
                self.assertEqual(cup.kept(), twin.kept())

    def test_what_was_told_stays_whatever_comes(self):
        for keep in KEEPS:
            for length in (0, 1, keep - 1, keep, 2 * keep, 100):
                cup = filled(keep, scattered(length, 31))
                told = cup.kept()
                copied = list(told)
                for reading in scattered(2 * keep + 1, 17):
                    cup.add(reading, 2)
                    self.assertEqual(told, copied)
                cup.pour(cup)
                cup.pour(filled(keep, [1, 2, 3]))
                self.assertEqual(told, copied)


if __name__ == "__main__":
    unittest.main()
