"""More books, quicker readers, and the reading by which two rings part."""

from math import lcm

from readingring.checks import check_number, check_reader
from readingring.errors import OtherRing
from readingring.rings import MOST_DAYS, end_day, pace_of
from readingring.schedule import settled

MOST_PLANNED = 1000


def pace_with(ring, books):
    """Return the pace if there were so many books."""
    check_number(books, 1, MOST_PLANNED)
    return pace_of(ring.days, books)


def fewest_books(ring):
    """Return the least number of books with which the pace is as small as with any number."""
    # With so many books the slowest reader sets the pace, and more books do not change that.
    slowest = max(ring.days)
    return (sum(ring.days) + slowest - 1) // slowest


def helpful_readers(ring):
    """Return the readers each of whom alone would make the pace smaller by needing one day less."""
    return [reader for reader in range(len(ring)) if is_helpful(ring, reader)]


def slowest_days(ring, reader):
    """Return the greatest number of days that a reader could need while the pace stays the same."""
    check_reader(ring, reader)
    choices = range(ring.days[reader], MOST_DAYS + 1)
    return max([days for days in choices if ring.with_days(reader, days).pace == ring.pace])


def fewest_days_less(ring, days, readings):
    """Return by how many days readers would have to be quicker for a pace of at most days / readings, or None."""
    check_number(days, 1, MOST_PLANNED)
    check_number(readings, 1, MOST_PLANNED)
    # No reader may need more days than this, and all readers together no more than the second number.
    most = days // readings
    most_in_all = days * ring.books // readings
    if most < 1 or most_in_all < len(ring):
        return None
    within = sum([min(needed, most) for needed in ring.days])
    return sum(ring.days) - min(within, most_in_all)


def first_unlike(one, other):
    """Return the number and the reader of the first reading that ends on different days in two rings, or None."""
    if len(one) != len(other):
        raise OtherRing("the rings have different numbers of readers")
    for number in range(numbers_to_compare(one, other)):
        for reader in range(len(one)):
            if end_day(one, reader, number) != end_day(other, reader, number):
                return (number, reader)
    return None


def is_helpful(ring, reader):
    """Tell whether the pace would be smaller if a reader needed one day less, but at least one."""
    if ring.days[reader] == 1:
        return False
    return is_smaller(ring.with_days(reader, ring.days[reader] - 1).pace, ring.pace)


def is_smaller(one, other):
    """Tell whether a fraction is smaller than another one."""
    return one[0] * other[1] < other[0] * one[1]


def numbers_to_compare(one, other):
    """Return from which number on two rings cannot part if they have not parted before."""
    number, readings, _ = settled(one)
    other_number, other_readings, _ = settled(other)
    # From the later number on, the difference of two ends changes by the same number of days
    # each time that both rings repeat. If it is 0 twice in a row, it is always 0.
    return max(number, other_number) + 2 * lcm(readings, other_readings)
