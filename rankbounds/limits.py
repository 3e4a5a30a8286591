"""Which whole numbers are taken, and the refusals of what is none of them."""

from rankbounds.errors import BadReading, NoPlace

GREATEST_READING = 10 ** 18


def is_whole(value, least, most):
    """Whether a value is a whole number within these limits."""
    # Python counts True and False among its integers; here they are no numbers.
    return isinstance(value, int) and not isinstance(value, bool) and least <= value <= most


def check_reading(value):
    """Refuse what is no reading."""
    if not is_whole(value, -GREATEST_READING, GREATEST_READING):
        raise BadReading("a reading is a whole number from -(10 ** 18) to 10 ** 18")


def check_place(value, count):
    """Refuse what is no place of a row of so many readings."""
    if not is_whole(value, 0, count - 1):
        raise NoPlace("a place is a whole number from 0 to one less than the count")
