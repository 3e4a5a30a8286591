"""Points 9 and 10: a cup's answers to places, and how many readings are ahead of one."""

import unittest
from itertools import product

from cup_rows import (
    MANY,
    NO_NUMBERS,
    NO_READINGS,
    Row,
    brimming,
    check_ahead,
    check_answers,
    check_cup,
    check_refused,
    coming_often,
    filled,
    told_by,
)
from rankbounds.cups import Cup
from rankbounds.errors import BadReading, NoPlace
from rows import GREATEST, LEAST, scattered

KEEPS = (1, 2, 3, 5, 8, 63, 64)
TURNS = {
    "rising": list(range(-70, 70)),
    "falling": list(range(70, -70, -1)),
    "like": [6] * 140,
    "two by turns": [3, -3] * 70,
    "outside in": [place * (-1) ** place for place in range(140, 0, -1)],
    "scattered": scattered(140, 1009),
    "scattered and like": scattered(140, 11),
    "the limits": [LEAST, GREATEST, LEAST + 1, GREATEST - 1, 0, 1, -1] * 20,
}


def off_by_plainly(rising, reading, place):
    """How far from a place a reading stands, by a look at each place of the sorted row."""
    return min(abs(at - place) for at, other in enumerate(rising) if other == reading)


class Answers(unittest.TestCase):
    def test_one_reading(self):
        for keep in KEEPS:
            for reading in (LEAST, -1, 0, 1, GREATEST):
                self.assertEqual(filled(keep, [reading]).answer(0), reading)

    def test_a_row_of_which_all_is_kept_is_answered_exactly(self):
        for keep in (1, 2, 3, 8, 64):
            for readings in (scattered(2 * keep - 1, 1009), scattered(keep, 3), [7] * keep):
                cup = filled(keep, readings)
                self.assertEqual(cup.off(), 0)
                self.assertEqual([cup.answer(place) for place in range(len(readings))], sorted(readings))

    def test_every_place_by_a_plain_sort(self):
        for name, readings in TURNS.items():
            for keep in KEEPS:
                with self.subTest(name, keep=keep):
                    cup, rising = filled(keep, readings), sorted(readings)
                    for place in range(len(rising)):
                        told = cup.answer(place)
                        self.assertIn(told, rising)
                        self.assertLessEqual(off_by_plainly(rising, told, place), cup.off())

    def test_every_place_of_all_small_rows(self):
        for keep in (1, 2, 3):
            for length in range(1, 8):
                for readings in product([-1, 0, 4], repeat=length):
                    cup, rising = filled(keep, readings), sorted(readings)
                    for place in range(length):
                        told = cup.answer(place)
                        self.assertLessEqual(off_by_plainly(rising, told, place), cup.off())

    def test_every_place_while_the_row_grows(self):
        for keep in (1, 2, 3, 5):
            cup, rising = Cup(keep), []
            for reading in scattered(100, 53):
                cup.add(reading, 1)
                rising = sorted(rising + [reading])
                for place in range(len(rising)):
                    told = cup.answer(place)
                    self.assertLessEqual(off_by_plainly(rising, told, place), cup.off())

    def test_the_first_and_the_last_place_of_long_rows(self):
        for keep in KEEPS:
            cup, row = Cup(keep), Row()
            for reading in scattered(3000, 100_003):
                cup.add(reading, 1)
                row.add(reading, 1)
            for place in (0, 1, 2, 1500, 2997, 2998, 2999):
                self.assertLessEqual(row.off_by(cup.answer(place), place), cup.off())

    def test_like_readings(self):
        for keep in KEEPS:
            for times in (1, 2, keep, 1000, MANY):
                cup = Cup(keep)
                cup.add(8, times)
                for place in (0, times // 2, times - 1):
                    self.assertEqual(cup.answer(place), 8)

    def test_readings_that_come_many_times(self):
        for keep in KEEPS:
            cup, row = Cup(keep), Row()
            for place, (reading, times) in enumerate(coming_often(keep)):
                cup.add(reading, times)
                row.add(reading, times)
                if place < 3 or place % 15 == 14:
                    check_answers(self, cup, row)

    def test_one_reading_that_nearly_all_are_is_answered_nearly_everywhere(self):
        for keep in KEEPS:
            cup, row = brimming(keep, [(1, 1), (2, MANY), (3, 1)])
            for place in (cup.off() + 1, MANY // 2, MANY - cup.off()):
                if 0 < place < MANY + 1:
                    self.assertEqual(cup.answer(place), 2)

    def test_asked_in_any_turn(self):
        cup = filled(3, scattered(100, 1009))
        rising = [cup.answer(place) for place in range(100)]
        self.assertEqual([cup.answer(place) for place in range(99, -1, -1)], rising[::-1])
        self.assertEqual([cup.answer(7) for _ in range(5)], [rising[7]] * 5)


class NoPlaces(unittest.TestCase):
    def test_what_is_no_place(self):
        for keep in KEEPS:
            for length in (1, 2, keep, 2 * keep, 50):
                cup = filled(keep, scattered(length, 31))
                for place in NO_NUMBERS + (-1, -length, length, length + 1, MANY, 10 ** 30):
                    check_refused(self, NoPlace, cup.answer, place)

    def test_a_row_without_readings_has_no_place(self):
        for keep in KEEPS:
            for place in NO_NUMBERS + (-1, 0, 1):
                check_refused(self, NoPlace, Cup(keep).answer, place)

    def test_the_edges_are_places(self):
        for keep in KEEPS:
            cup = filled(keep, [4] * 50)
            self.assertEqual((cup.answer(0), cup.answer(49)), (4, 4))

    def test_what_is_refused_changes_nothing(self):
        cup, twin = filled(3, scattered(20, 31)), filled(3, scattered(20, 31))
        for place in NO_NUMBERS + (-1, 20):
            check_refused(self, NoPlace, cup.answer, place)
        self.assertEqual(told_by(cup), told_by(twin))


class Ahead(unittest.TestCase):
    def test_a_row_of_which_all_is_kept_is_told_exactly(self):
        for keep in (1, 2, 3, 8, 64):
            for readings in (scattered(2 * keep - 1, 1009), scattered(keep, 3), [7] * keep):
                cup, row = filled(keep, readings), Row(readings)
                for reading in row.readings_about():
                    self.assertEqual(cup.ahead(reading), (row.less(reading), row.less(reading)))

    def test_by_a_plain_count_of_all_readings(self):
        for name, readings in TURNS.items():
            for keep in KEEPS:
                with self.subTest(name, keep=keep):
                    cup = filled(keep, readings)
                    for reading in Row(readings).readings_about():
                        least, most = cup.ahead(reading)
                        less = len([other for other in readings if other < reading])
                        self.assertLessEqual(least, less)
                        self.assertLessEqual(less, most)
                        self.assertLessEqual(most - least, cup.off())

    def test_all_small_rows(self):
        for keep in (1, 2, 3):
            for length in range(8):
                for readings in product([-1, 0, 4], repeat=length):
                    cup = filled(keep, readings)
                    for reading in (-2, -1, 0, 1, 3, 4, 5):
                        least, most = cup.ahead(reading)
                        less = len([other for other in readings if other < reading])
                        self.assertLessEqual(least, less)
                        self.assertLessEqual(less, most)
                        self.assertLessEqual(most - least, cup.off())

    def test_while_the_row_grows(self):
        for keep in KEEPS:
            cup, row = Cup(keep), Row()
            for reading in scattered(100, 53):
                cup.add(reading, 1)
                row.add(reading, 1)
                check_ahead(self, cup, row)

    def test_readings_that_come_many_times(self):
        for keep in KEEPS:
            cup, row = Cup(keep), Row()
            for reading, times in coming_often(keep):
                cup.add(reading, times)
                row.add(reading, times)
                check_ahead(self, cup, row)

    def test_ahead_of_all_and_of_none(self):
        for keep in KEEPS:
            cup, row = brimming(keep, [(LEAST, 30), (5, 1000), (GREATEST - 1, 77)])
            self.assertEqual(cup.ahead(LEAST)[0], 0)
            self.assertEqual(cup.ahead(GREATEST)[1], row.count())
            check_ahead(self, cup, row)

    def test_the_kinds_of_values(self):
        for cup in (Cup(3), filled(3, [1]), filled(3, scattered(40, 9))):
            for reading in (LEAST, 0, 2, GREATEST):
                told = cup.ahead(reading)
                self.assertIs(type(told), tuple)
                self.assertEqual([type(number) for number in told], [int, int])

    def test_what_is_no_reading(self):
        for cup in (Cup(2), filled(2, [3]), filled(2, scattered(40, 9))):
            before = told_by(cup)
            for reading in NO_READINGS:
                check_refused(self, BadReading, cup.ahead, reading)
            self.assertEqual(told_by(cup), before)

    def test_the_edges_are_readings(self):
        cup = filled(2, [LEAST, GREATEST])
        self.assertEqual((cup.ahead(LEAST), cup.ahead(GREATEST)), ((0, 0), (1, 1)))


class Poured(unittest.TestCase):
    def test_cups_that_are_poured_by_turns_with_what_comes(self):
        for keep in KEEPS:
            cup, row = Cup(keep), Row()
            for length in (1, keep - 1, 90, keep, 41, keep + 1):
                readings = scattered(length, 29 + length)
                cup.pour(filled(keep, readings))
                row.pour(Row(readings))
                check_cup(self, cup, row)
                cup.add(length, 3)
                row.add(length, 3)
                check_cup(self, cup, row)

    def test_rows_apart_from_each_other(self):
        for keep in KEEPS:
            cup, row = Cup(keep), Row()
            for start in (0, 1000, -1000, 500, 0):
                readings = [start + place for place in range(37)]
                cup.pour(filled(keep, readings))
                row.pour(Row(readings))
                check_cup(self, cup, row)


if __name__ == "__main__":
    unittest.main()
