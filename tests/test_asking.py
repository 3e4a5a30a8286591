"""Points 12 and 13, and the answers to several places."""

import unittest
from itertools import product

from cup_rows import (
    MANY,
    NO_NUMBERS,
    NO_READINGS,
    Row,
    brimming,
    check_refused,
    filled,
    told_by,
)
from rankbounds import asking
from rankbounds.asking import answers, between, place_of
from rankbounds.cups import Cup
from rankbounds.errors import BadReading, NoPlace, NoReadings
from rows import GREATEST, LEAST, scattered

KEEPS = (1, 2, 3, 8, 63, 64)


class TheInterface(unittest.TestCase):
    def test_the_functions_stand_in_the_file(self):
        for name in ("place_of", "answers", "between"):
            self.assertEqual(getattr(asking, name).__module__, "rankbounds.asking")

    def test_the_names_of_the_arguments(self):
        cup = filled(3, [5, 7])
        self.assertEqual(place_of(cup=cup, part=1, of=1), 1)
        self.assertEqual(answers(cup=cup, places=[1, 0]), [7, 5])
        self.assertEqual(between(cup=cup, low=5, high=6), (1, 1))


class PlaceOf(unittest.TestCase):
    def test_worked_by_hand(self):
        cup = filled(4, range(11))
        for part, of, place in (
            (0, 1, 0),
            (1, 1, 10),
            (1, 2, 5),
            (1, 3, 3),
            (2, 3, 6),
            (9, 10, 9),
            (99, 100, 9),
            (1, 11, 0),
            (10, 11, 9),
            (1, MANY, 0),
            (MANY - 1, MANY, 9),
        ):
            self.assertEqual(place_of(cup, part, of), place)

    def test_no_part_and_all(self):
        for keep in KEEPS:
            for length in (1, 2, 3, keep, 100):
                cup = filled(keep, scattered(length, 31))
                for of in (1, 2, 3, 100, MANY - 1, MANY):
                    self.assertEqual(place_of(cup, 0, of), 0)
                    self.assertEqual(place_of(cup, of, of), length - 1)

    def test_parts_between(self):
        for length in (1, 2, 3, 10, 57):
            cup = filled(3, scattered(length, 31))
            for of in list(range(1, 40)) + [997, MANY]:
                for part in {0, 1, 2, of // 3, of // 2, of - 1, of}:
                    if part <= of:
                        place = place_of(cup, part, of)
                        self.assertIs(type(place), int)
                        # The greatest whole number that is no more than the part of the last place.
                        self.assertLessEqual(place * of, (length - 1) * part)
                        self.assertGreater((place + 1) * of, (length - 1) * part)

    def test_long_rows(self):
        cup, row = brimming(8, [(3, MANY), (4, MANY - 5)])
        for _ in range(25):
            cup.pour(cup)
            row.pour(row)
        last = row.count() - 1
        for part, of in ((0, 1), (1, 1), (1, 3), (999_999_999, MANY), (1, MANY), (500, 999)):
            self.assertEqual(place_of(cup, part, of), last * part // of)

    def test_each_is_a_place_of_the_row(self):
        cup = filled(2, scattered(30, 11))
        for of in (1, 7, 100, MANY):
            for part in (0, of // 2, of):
                cup.answer(place_of(cup, part, of))

    def test_a_row_without_readings(self):
        for keep in KEEPS:
            for part, of in ((0, 1), (1, 1), (1, 2)):
                check_refused(self, NoReadings, place_of, Cup(keep), part, of)

    def test_no_readings_stands_ahead_of_no_place(self):
        for bad in NO_NUMBERS + (-1, 0, 2, MANY + 1):
            check_refused(self, NoReadings, place_of, Cup(3), bad, 1)
            check_refused(self, NoReadings, place_of, Cup(3), 0, bad)
            check_refused(self, NoReadings, place_of, Cup(3), bad, bad)

    def test_what_is_no_part(self):
        cup = filled(3, scattered(20, 11))
        before = told_by(cup)
        for of in (1, 2, 10, MANY):
            for part in NO_NUMBERS + (-1, -of, of + 1, 2 * of, MANY + 1, 10 ** 30):
                check_refused(self, NoPlace, place_of, cup, part, of)
        self.assertEqual(told_by(cup), before)

    def test_what_is_nothing_to_be_a_part_of(self):
        cup = filled(3, scattered(20, 11))
        before = told_by(cup)
        for of in NO_NUMBERS + (0, -1, MANY + 1, 10 ** 30):
            for part in (0, 1, -1, None):
                check_refused(self, NoPlace, place_of, cup, part, of)
        self.assertEqual(told_by(cup), before)

    def test_true_and_false_are_no_numbers(self):
        cup = filled(3, [1, 2, 3])
        for part, of in ((False, 1), (True, 1), (True, 5), (0, True), (1, True), (True, True)):
            check_refused(self, NoPlace, place_of, cup, part, of)


class Answers(unittest.TestCase):
    def test_no_places(self):
        for cup in (Cup(2), filled(2, [4]), filled(2, scattered(50, 9))):
            told = answers(cup, [])
            self.assertIs(type(told), list)
            self.assertEqual(told, [])

    def test_each_place_has_the_cups_own_answer(self):
        for keep in KEEPS:
            for readings in (scattered(60, 1009), scattered(60, 7), [3] * 60, list(range(60))):
                cup = filled(keep, readings)
                places = list(range(60))
                told = answers(cup, places)
                self.assertIs(type(told), list)
                self.assertEqual(told, [cup.answer(place) for place in places])
                self.assertEqual(answers(cup, places[::-1]), told[::-1])

    def test_places_in_any_turn_and_twice(self):
        cup = filled(2, [50, 10, 30])
        self.assertEqual(answers(cup, [2, 0, 0, 2, 2]), [cup.answer(place) for place in (2, 0, 0, 2, 2)])
        self.assertEqual(answers(filled(8, [50, 10, 30]), [2, 0, 1, 2]), [50, 10, 30, 50])

    def test_off_by_no_more_than_off(self):
        for keep in KEEPS:
            cup, row = brimming(keep, [(5, MANY), (1, 3), (9, 1000), (-4, MANY - 1), (0, keep)])
            places = row.places()
            self.assertLessEqual(len(places), 70)
            for place, told in zip(places, answers(cup, places)):
                self.assertIn(told, row.times)
                self.assertLessEqual(row.off_by(told, place), cup.off())

    def test_one_of_them_is_no_place(self):
        for length in (1, 2, 50):
            cup = filled(3, scattered(length, 31))
            before = told_by(cup)
            for bad in NO_NUMBERS + (-1, length, length + 1, 10 ** 30):
                for places in ([bad], [0, bad], [bad, 0], [0, bad, 0]):
                    check_refused(self, NoPlace, answers, cup, places)
            self.assertEqual(told_by(cup), before)

    def test_a_row_without_readings_has_no_place(self):
        for place in NO_NUMBERS + (-1, 0, 1):
            check_refused(self, NoPlace, answers, Cup(3), [place])

    def test_the_list_of_places_stays(self):
        cup = filled(3, scattered(50, 31))
        places = [4, 0, 49, 4]
        answers(cup, places)
        self.assertEqual(places, [4, 0, 49, 4])
        places = [4, 50, 0]
        check_refused(self, NoPlace, answers, cup, places)
        self.assertEqual(places, [4, 50, 0])

    def test_what_was_told_is_the_askers_own(self):
        cup = filled(3, scattered(50, 31))
        before = told_by(cup)
        places = [4, 0, 49]
        told = answers(cup, places)
        copied = list(told)
        told.append(7)
        told.reverse()
        self.assertEqual(answers(cup, places), copied)
        self.assertEqual(told_by(cup), before)
        told = answers(cup, places)
        cup.add(-1000, 200)
        cup.pour(cup)
        places.clear()
        self.assertEqual(told, copied)


class Between(unittest.TestCase):
    def check(self, cup, row, low, high):
        told = between(cup, low, high)
        self.assertIs(type(told), tuple)
        self.assertEqual([type(number) for number in told], [int, int])
        if high <= low:
            self.assertEqual(told, (0, 0))
            return
        least, most = told
        plainly = row.less(high) - row.less(low)
        self.assertLessEqual(least, plainly)
        self.assertLessEqual(plainly, most)
        self.assertLessEqual(most - least, 2 * cup.off())
        self.assertGreaterEqual(least, 0)

    def check_all(self, cup, row):
        readings = row.readings_about()
        for low in readings:
            for high in readings:
                self.check(cup, row, low, high)

    def test_a_row_of_which_all_is_kept_is_told_exactly(self):
        cup = filled(4, [10, 20, 20, 30])
        for low, high, many in (
            (10, 20, 1),
            (10, 21, 3),
            (11, 20, 0),
            (20, 21, 2),
            (LEAST, GREATEST, 4),
            (10, 30, 3),
            (10, 31, 4),
            (31, GREATEST, 0),
        ):
            self.assertEqual(between(cup, low, high), (many, many))

    def test_a_row_without_readings(self):
        for low, high in ((0, 1), (1, 0), (0, 0), (LEAST, GREATEST)):
            self.assertEqual(between(Cup(3), low, high), (0, 0))

    def test_the_second_no_greater_than_the_first(self):
        for keep in KEEPS:
            cup = filled(keep, scattered(100, 31))
            for low, high in ((0, 0), (1, 0), (5, -5), (GREATEST, LEAST), (LEAST, LEAST), (GREATEST, GREATEST)):
                self.assertEqual(between(cup, low, high), (0, 0))

    def test_rows_by_a_plain_count(self):
        for keep in KEEPS:
            for readings in (scattered(150, 37), [6] * 150, list(range(40)), scattered(30, 1009)):
                self.check_all(filled(keep, readings), Row(readings))

    def test_all_small_rows(self):
        for keep in (1, 2, 3):
            for length in range(7):
                for readings in product([-1, 0, 3], repeat=length):
                    cup, row = filled(keep, readings), Row(readings)
                    for low in range(-2, 5):
                        for high in range(-2, 5):
                            self.check(cup, row, low, high)

    def test_readings_that_come_many_times(self):
        for keep in KEEPS:
            cup, row = brimming(keep, [(5, MANY), (1, 3), (9, 1000), (-4, MANY - 1), (0, keep)])
            self.check_all(cup, row)
            cup.pour(cup)
            row.pour(row)
            self.check_all(cup, row)

    def test_what_is_no_reading(self):
        for cup in (Cup(3), filled(3, scattered(50, 31))):
            before = told_by(cup) if cup.count() else None
            for bad in NO_READINGS:
                for good in (LEAST, 0, 3, GREATEST):
                    check_refused(self, BadReading, between, cup, bad, good)
                    check_refused(self, BadReading, between, cup, good, bad)
                check_refused(self, BadReading, between, cup, bad, bad)
            if before is not None:
                self.assertEqual(told_by(cup), before)

    def test_bad_reading_stands_ahead_of_no_readings_between(self):
        cup = filled(3, [1, 2, 3])
        for low, high in ((GREATEST + 1, 0), (0, LEAST - 1), (True, 0), (5, False), (True, True)):
            check_refused(self, BadReading, between, cup, low, high)
            check_refused(self, BadReading, between, Cup(3), low, high)


if __name__ == "__main__":
    unittest.main()
