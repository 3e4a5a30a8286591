"""What is asked of a cup beyond its own methods."""

from rankbounds.entries import nearest
from rankbounds.errors import NoPlace, NoReadings
from rankbounds.limits import check_place, check_reading, is_whole

GREATEST_OF = 10 ** 9


def place_of(cup, part, of):
    """The place for a part of all: 0 for part 0, the last one for a part that equals `of`."""
    if cup.count() == 0:
        raise NoReadings("a row without readings has no places")
    if not is_whole(of, 1, GREATEST_OF) or not is_whole(part, 0, of):
        raise NoPlace("a part is a whole number from 0 to of, and of is one from 1 to 10 ** 9")
    return (cup.count() - 1) * part // of


def answers(cup, places):
    """The answers to several places."""
    for place in places:
        check_place(place, cup.count())
    # Told once for all places: a cup joins its entries anew whenever it tells them.
    entries = cup.kept()
    return [nearest(entries, place) for place in places]


def between(cup, low, high):
    """At least and at most how many readings are no less than low and less than high."""
    check_reading(low)
    check_reading(high)
    if high <= low:
        return (0, 0)
    least_below, most_below = cup.ahead(low)
    least_in_all, most_in_all = cup.ahead(high)
    # The bounds of near readings may overlap, but there are never fewer than none.
    return (max(0, least_in_all - most_below), most_in_all - least_below)
