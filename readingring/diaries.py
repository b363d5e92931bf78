"""Diaries of rings, and observers of days that are not known."""

from readingring.checks import LATEST, check_number, check_reader, is_number
from readingring.errors import Contradiction, DiaryError
from readingring.rings import MOST_DAYS, end_day
from readingring.schedule import book_of

MOST_ENTRIES = 500
MOST_LIMIT = 500


def diary_of(ring, count):
    """Yield the first so many readings as they end, by days, then by readers."""
    check_number(count, 0, MOST_ENTRIES)
    # For each reader: the number of the next reading to end, and the day on which it does.
    numbers = [0] * len(ring)
    ends = [end_day(ring, reader, 0) for reader in range(len(ring))]
    for _ in range(count):
        day = min(ends)
        reader = ends.index(day)
        yield (day, reader, book_of(ring, reader, numbers[reader]))
        numbers[reader] += 1
        ends[reader] = end_day(ring, reader, numbers[reader])


def mended(ring, diary):
    """Return the full entries of a torn diary."""
    if not isinstance(diary, list):
        raise DiaryError(0)
    many = min(len(diary), MOST_ENTRIES)
    entries = list(diary_of(ring, many))
    for index, torn in enumerate(diary):
        if index >= MOST_ENTRIES or not can_be(torn, entries[index]):
            raise DiaryError(index)
    return entries


def can_be(torn, entry):
    """Tell whether a value is an entry from which any numbers have been torn."""
    if not isinstance(torn, tuple) or len(torn) != len(entry):
        return False
    return all([item is None or is_same_number(item, number) for item, number in zip(torn, entry)])


def is_same_number(value, number):
    """Tell whether a value, which may be anything, is just this number."""
    return is_number(value) and value == number


class DaysObserver:
    """Somebody who knows a ring, but not how many days one of its readers needs."""

    def __init__(self, ring, reader):
        check_reader(ring, reader)
        self._reader = reader
        # The rings with all numbers of days that agree with the observations, never without any.
        self._rings = [ring.with_days(reader, days) for days in range(1, MOST_DAYS + 1)]
        self._observations = []

    @classmethod
    def from_log(cls, ring, reader, observations):
        """Return an observer after a list of observations."""
        observer = cls(ring, reader)
        for name, *arguments in observations:
            if name == "see_end":
                observer.see_end(*arguments)
            else:
                observer.see_open(*arguments)
        return observer

    @property
    def possible_days(self):
        """The list of all numbers of days that the reader may need."""
        return [ring.days[self._reader] for ring in self._rings]

    @property
    def observations(self):
        """The list of all observations, tuples of the name of the method and its arguments."""
        return list(self._observations)

    def see_end(self, reader, number, day):
        """Record that a reading ends on a day, and return how many numbers of days remain possible."""
        self._check_reading(reader, number)
        rings = [ring for ring in self._rings if is_same_number(day, end_day(ring, reader, number))]
        return self._accept(("see_end", reader, number, day), rings)

    def see_open(self, reader, number, day):
        """Record that a reading has not ended by a day, and return how many numbers of days remain possible."""
        self._check_reading(reader, number)
        check_number(day, 0, LATEST)
        rings = [ring for ring in self._rings if end_day(ring, reader, number) > day]
        return self._accept(("see_open", reader, number, day), rings)

    def possible_ends(self, reader, number):
        """Return the days on which a reading can end."""
        self._check_reading(reader, number)
        return sorted({end_day(ring, reader, number) for ring in self._rings})

    def telling_number(self, reader, limit):
        """Return the first number of a reading whose end tells how many days are needed, or None."""
        check_reader(self._rings[0], reader)
        check_number(limit, 0, MOST_LIMIT)
        for number in range(limit + 1):
            if len(self.possible_ends(reader, number)) == len(self._rings):
                return number
        return None

    def _check_reading(self, reader, number):
        """Raise UnknownReader or InvalidNumber unless the ring has such a reading."""
        check_reader(self._rings[0], reader)
        check_number(number, 0, LATEST)

    def _accept(self, observation, rings):
        """Record an observation with which these rings remain possible, and return their number."""
        if len(rings) == 0:
            raise Contradiction("no number of days agrees with this and all earlier observations")
        self._rings = rings
        self._observations.append(observation)
        return len(rings)
