"""Rings of readers, and the days on which readings end."""

from math import gcd

from readingring.checks import LATEST, check_number, check_reader, lies_between
from readingring.errors import InvalidRing

FEWEST_READERS = 2
MOST_READERS = 8
MOST_DAYS = 30
MOST_BOOKS = 12


class Ring:
    """Readers in a ring: the days that each one needs, the books at first."""

    def __init__(self, days, starts):
        check_part("days", days, (1, MOST_DAYS), (FEWEST_READERS, MOST_READERS))
        check_part("starts", starts, (0, MOST_BOOKS), (len(days), len(days)))
        if not 1 <= sum(starts) <= MOST_BOOKS:
            raise InvalidRing("starts", -1)
        self._days = tuple(days)
        self._starts = tuple(starts)

    @classmethod
    def single(cls, *days):
        """Return the ring of readers who have one book each at first."""
        return cls(days, (1,) * len(days))

    @property
    def days(self):
        """The tuple of the days that each reader needs."""
        return self._days

    @property
    def starts(self):
        """The tuple of the books that each reader has at first."""
        return self._starts

    @property
    def books(self):
        """The number of all books."""
        return sum(self._starts)

    @property
    def pace(self):
        """Days and readings of the long run, a fraction in lowest terms."""
        return pace_of(self._days, sum(self._starts))

    def with_days(self, reader, days):
        """Return the ring in which a reader needs so many days."""
        check_reader(self, reader)
        changed = self._days[:reader] + (days,) + self._days[reader + 1:]
        return Ring(changed, self._starts)

    def __len__(self):
        return len(self._days)

    def __getitem__(self, at):
        check_reader(self, at)
        return (self._days[at], self._starts[at])

    def __iter__(self):
        raise TypeError("rings are not walked")

    def __call__(self, reader, number):
        check_reader(self, reader)
        check_number(number, 0, LATEST)
        return end_day(self, reader, number)

    def __rshift__(self, other):
        check_number(other, 0, len(self._days) - 1)
        days = self._days[other:] + self._days[:other]
        starts = self._starts[other:] + self._starts[:other]
        return Ring(days, starts)

    def __eq__(self, other):
        return isinstance(other, Ring) and self._days == other._days and self._starts == other._starts


def check_part(part, values, limits, lengths):
    """Raise InvalidRing unless values is a tuple of numbers within the limits, and neither too short nor too long."""
    if not isinstance(values, tuple):
        raise InvalidRing(part, 0)
    low, high = limits
    fewest, most = lengths
    for index, value in enumerate(values):
        if index >= most or not lies_between(value, low, high):
            raise InvalidRing(part, index)
    if len(values) < fewest:
        raise InvalidRing(part, len(values))


def slowest_decides(days, books):
    """Tell whether the slowest reader alone sets the pace, not the way round the ring."""
    return max(days) * books >= sum(days)


def pace_of(days, books):
    """Return the pace of readers with so many books in all."""
    if slowest_decides(days, books):
        return (max(days), 1)
    return round_pace(days, books)


def round_pace(days, books):
    """Return the days of all readers, divided by the number of books, in lowest terms."""
    common = gcd(sum(days), books)
    return (sum(days) // common, books // common)


def end_day(ring, reader, number):
    """Return the day on which a reading ends, whatever its number is.

    The end is the greatest sum of days of a chain of readings that wait for
    one another. Seen from its end, a chain goes back from reader to reader.
    A step back leaves as many readings out as the reader has books at first,
    and all readings that are not left out can be those of the slowest reader
    on the way.
    """
    books = ring.books
    slowest = max(ring.days)
    # What one more round changes, if the slowest reader is on the way already.
    gain = sum(ring.days) - books * slowest
    latest = total = slowest_met = 0
    left = number
    for step in range(len(ring)):
        total += ring.days[reader - step]
        slowest_met = max(slowest_met, ring.days[reader - step])
        latest = max(latest, total + left * slowest_met)
        # All rounds change the sum alike: either one of them is best, or as many as there can be.
        if left >= books:
            rounds = left // books if gain > 0 else 1
            latest = max(latest, total + left * slowest + rounds * gain)
        left -= ring.starts[reader - step]
        if left < 0:
            break
    return latest
