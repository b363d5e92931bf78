"""Chains of readings that wait for one another, and the readers that set the pace."""

from readingring.checks import check_number, check_reader, lies_between
from readingring.errors import InvalidChain
from readingring.rings import end_day, round_pace, slowest_decides
from readingring.schedule import begin_day, reader_before

LAST_NUMBER = 500


def chain_of_waits(ring, reader, number):
    """Return readings from day 0 up to a reading, each of which begins when the one before it ends."""
    check_reader(ring, reader)
    check_number(number, 0, LAST_NUMBER)
    reading = (reader, number)
    backwards = [reading]
    day = begin_day(ring, reader, number)
    while day > 0:
        reading = awaited_reading(ring, reading, day)
        backwards.append(reading)
        day -= ring.days[reading[0]]
    return backwards[::-1]


def judge_chain(ring, chain):
    """Return the sum of the days of readings that follow one another."""
    if not isinstance(chain, list):
        raise InvalidChain(0)
    total = 0
    for index, reading in enumerate(chain):
        if not is_reading(ring, reading):
            raise InvalidChain(index)
        if index > 0 and not follows(ring, chain[index - 1], reading):
            raise InvalidChain(index)
        total += ring.days[reading[0]]
    return total


def pace_readers(ring):
    """Return the readers that set the pace: the first one of the slowest, or all."""
    if slowest_decides(ring.days, ring.books):
        return [ring.days.index(max(ring.days))]
    return list(range(len(ring)))


def judge_pace(ring, readers):
    """Return the days for a reading, a fraction, that one reader or all of them show to be needed."""
    if not isinstance(readers, list):
        raise InvalidChain(0)
    for index, reader in enumerate(readers):
        if index >= len(ring) or not lies_between(reader, 0, len(ring) - 1):
            raise InvalidChain(index)
        if index > 0 and readers[index - 1] != reader_before(ring, reader):
            raise InvalidChain(index)
    if len(readers) == 1:
        return (ring.days[readers[0]], 1)
    if len(readers) < len(ring):
        raise InvalidChain(len(readers))
    return round_pace(ring.days, ring.books)


def awaited_reading(ring, reading, day):
    """Return the reading that ends on the day on which a reading begins, after day 0."""
    reader, number = reading
    if number > 0 and end_day(ring, reader, number - 1) == day:
        return (reader, number - 1)
    return same_book_before(ring, reading)


def same_book_before(ring, reading):
    """Return the reading of the same book by the reader before; the number is below 0 if there is none."""
    reader, number = reading
    return (reader_before(ring, reader), number - ring.starts[reader])


def follows(ring, before, reading):
    """Tell whether a reading follows another one, by the same reader or with the same book."""
    reader, number = reading
    return before == (reader, number - 1) or before == same_book_before(ring, reading)


def is_reading(ring, value):
    """Tell whether a value is a tuple of a reader and a number within the limits."""
    if not isinstance(value, tuple) or len(value) != 2:
        return False
    return lies_between(value[0], 0, len(ring) - 1) and lies_between(value[1], 0, LAST_NUMBER)
