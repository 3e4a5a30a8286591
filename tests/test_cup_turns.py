"""Point 11: whatever came and was poured in whatever turn, points 6 to 10 hold."""

import unittest
from itertools import permutations, product

from cup_rows import MANY, Row, brimming, check_cup, filled
from rankbounds.cups import Cup
from rows import GREATEST, LEAST, scattered


def sizes(cup):
    return (cup.count(), cup.off(), cup.bound())


def dealt(keep, readings, many):
    """The readings dealt to so many cups, by turns that are not even."""
    hands = [[] for _ in range(many)]
    for place, reading in enumerate(readings):
        hands[place * place % 7 % many].append(reading)
    return [filled(keep, hand) for hand in hands]


def poured_in_a_row(keep, cups):
    whole = Cup(keep)
    for cup in cups:
        whole.pour(cup)
    return whole


def poured_two_by_two(cups):
    """Each two cups that stand side by side poured into one, until one is left."""
    cups = list(cups)
    while len(cups) > 1:
        for one, other in zip(cups[::2], cups[1::2]):
            one.pour(other)
        cups = cups[::2]
    return cups[0]


class AnyTurn(unittest.TestCase):
    def test_six_readings_in_every_turn(self):
        readings = [4, -1, 4, 9, 0, 4]
        row = Row(readings)
        for keep in (1, 2, 3):
            first = sizes(filled(keep, readings))
            for turn in set(permutations(readings)):
                cup = filled(keep, turn)
                self.assertEqual(sizes(cup), first)
                check_cup(self, cup, row)

    def test_eight_unlike_readings_in_many_turns(self):
        readings = list(range(8))
        row = Row(readings)
        for turn in list(permutations(readings))[::67]:
            for keep in (1, 2):
                check_cup(self, filled(keep, turn), row)

    def test_rows_rising_falling_and_scattered(self):
        for keep in (1, 2, 3, 8, 64):
            readings = scattered(150, 97)
            row = Row(readings)
            cups = [
                filled(keep, readings),
                filled(keep, readings[::-1]),
                filled(keep, sorted(readings)),
                filled(keep, sorted(readings, reverse=True)),
                filled(keep, readings[75:] + readings[:75]),
            ]
            for cup in cups:
                self.assertEqual(sizes(cup), sizes(cups[0]))
                check_cup(self, cup, row)

    def test_once_and_many_times_are_alike(self):
        for keep in (1, 2, 3, 8, 64):
            times = {5: 3, -2: 40, 9: keep, 0: 1, 7: 2 * keep + 1}
            row = Row()
            for reading, often in times.items():
                row.add(reading, often)
            at_once = Cup(keep)
            for reading, often in times.items():
                at_once.add(reading, often)
            one_by_one = filled(keep, [reading for reading, often in times.items() for _ in range(often)])
            in_parts = Cup(keep)
            for reading, often in sorted(times.items()):
                if often > 1:
                    in_parts.add(reading, often - 1)
                in_parts.add(reading, 1)
            for cup in (at_once, one_by_one, in_parts):
                self.assertEqual(sizes(cup), sizes(at_once))
                check_cup(self, cup, row)


class AnyCups(unittest.TestCase):
    def test_six_readings_dealt_to_three_cups_in_every_way(self):
        readings = [4, -1, 4, 9, 0, 2]
        row = Row(readings)
        for keep in (1, 2):
            whole = sizes(filled(keep, readings))
            for deal in product(range(3), repeat=6):
                hands = [[reading for reading, to in zip(readings, deal) if to == hand] for hand in range(3)]
                cup = poured_in_a_row(keep, [filled(keep, hand) for hand in hands])
                self.assertEqual(sizes(cup), whole)
                check_cup(self, cup, row)

    def test_cups_poured_in_every_turn(self):
        for keep in (1, 2, 3, 8):
            readings = scattered(90, 37)
            row = Row(readings)
            whole = sizes(filled(keep, readings))
            for turn in permutations(range(4)):
                cups = dealt(keep, readings, 4)
                for cup in (
                    poured_in_a_row(keep, [cups[at] for at in turn]),
                    poured_two_by_two([cups[at] for at in turn]),
                ):
                    self.assertEqual(sizes(cup), whole)
                    check_cup(self, cup, row)

    def test_many_cups(self):
        for keep in (1, 2, 3, 8, 64):
            readings = scattered(300, 1009)
            row = Row(readings)
            whole = sizes(filled(keep, readings))
            for many in (1, 2, 5, 7):
                for cup in (
                    poured_in_a_row(keep, dealt(keep, readings, many)),
                    poured_two_by_two(dealt(keep, readings, many)),
                ):
                    self.assertEqual(sizes(cup), whole)
                    check_cup(self, cup, row)
            singles = poured_in_a_row(keep, [filled(keep, [reading]) for reading in readings])
            self.assertEqual(sizes(singles), whole)
            check_cup(self, singles, row)

    def test_cups_of_unlike_lengths(self):
        for keep in (1, 2, 3, 8, 64):
            lengths = (1, 3 * keep, 0, keep - 1, 200, keep, 2, 64)
            hands = [scattered(length, 41 + length) for length in lengths]
            row = Row([reading for hand in hands for reading in hand])
            forth = poured_in_a_row(keep, [filled(keep, hand) for hand in hands])
            back = poured_in_a_row(keep, [filled(keep, hand) for hand in hands[::-1]])
            by_two = poured_two_by_two([filled(keep, hand) for hand in hands])
            for cup in (forth, back, by_two):
                self.assertEqual(sizes(cup), sizes(forth))
                check_cup(self, cup, row)

    def test_readings_that_come_many_times_to_several_cups(self):
        pairs = [(5, MANY), (LEAST, 3), (5, 7), (0, MANY - 1), (GREATEST, 1000), (2, 1), (-9, 123_456)]
        for keep in (1, 2, 3, 8, 64):
            whole, row = brimming(keep, pairs)
            backward, _ = brimming(keep, pairs[::-1])
            dealt_out = poured_in_a_row(keep, [brimming(keep, [pair])[0] for pair in pairs])
            for cup in (whole, backward, dealt_out):
                self.assertEqual(sizes(cup), sizes(whole))
                check_cup(self, cup, row)

    def test_twice_as_often_by_any_way(self):
        for keep in (1, 2, 3, 8, 64):
            readings = scattered(77, 19)
            row = Row(readings + readings)
            into_itself = filled(keep, readings)
            into_itself.pour(into_itself)
            into_a_like_one = filled(keep, readings)
            into_a_like_one.pour(filled(keep, readings))
            twice = poured_in_a_row(keep, [filled(keep, readings)] * 2)
            one_by_one = filled(keep, readings + readings)
            for cup in (into_itself, into_a_like_one, twice, one_by_one):
                self.assertEqual(sizes(cup), sizes(into_itself))
                check_cup(self, cup, row)


if __name__ == "__main__":
    unittest.main()
