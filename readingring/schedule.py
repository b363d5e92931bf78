"""Readings, heaps and meetings of the books of a ring."""

from readingring.checks import LATEST, check_number, check_reader, lies_between
from readingring.errors import SameBook, UnknownBook
from readingring.rings import end_day, slowest_decides


def begin_day(ring, reader, number):
    """Return the day on which a reading begins."""
    return ring(reader, number) - ring.days[reader]


def book_of(ring, reader, number):
    """Return the book of a reading."""
    check_reader(ring, reader)
    check_number(number, 0, LATEST)
    # After a round of all books, each reader has the same ones again, in the same order.
    place = int(number) % ring.books
    while place >= ring.starts[reader]:
        place -= ring.starts[reader]
        reader = reader_before(ring, reader)
    return sum(ring.starts[:reader]) + place


def readings_by(ring, reader, day):
    """Return how many readings of a reader have ended by a day."""
    check_reader(ring, reader)
    check_number(day, 0, LATEST)
    return ended_by(ring, reader, day)


def heap_on(ring, reader, day):
    """Return how many books wait in a reader's heap on a day."""
    check_reader(ring, reader)
    check_number(day, 0, LATEST)
    came = ring.starts[reader] + ended_by(ring, reader_before(ring, reader), day)
    return came - begun_by(ring, reader, day)


def longest_heap(ring, reader):
    """Return how many books wait at most in a reader's heap on any day."""
    check_reader(ring, reader)
    before = reader_before(ring, reader)
    came = ring.starts[reader]
    begun = min(came, 1)
    longest = came - begun
    # A heap grows only when a book comes. What waits then has come at most as many readings before
    # as there are books, so that all heaps have been seen a round after those that repeat.
    for number in range(settled(ring)[0] + 2 * ring.books + 1):
        day = end_day(ring, before, number)
        came += 1
        while begun < came and end_day(ring, reader, begun) - ring.days[reader] <= day:
            begun += 1
        longest = max(longest, came - begun)
    return longest


def settled(ring):
    """Return from which number on ends repeat, after how many readings, and how many days later."""
    readings, days = repetition(ring)
    # Each end follows from those of the greatest number of books at first before it:
    # if so many in a row repeat, all later ones do.
    needed = max(ring.starts)
    number = 0
    found = 0
    while found < needed:
        if row_repeats(ring, number + found, readings, days):
            found += 1
        else:
            number += found + 1
            found = 0
    return (number, readings, days)


def first_meeting(ring, one, other):
    """Return the first day on which two books are at the same reader, and the reader, or None."""
    check_book(ring, one)
    check_book(ring, other)
    if one == other:
        raise SameBook("a book does not meet itself")
    last = last_new_day(ring)
    stays = [first_stay(ring, one), first_stay(ring, other)]
    day = 0
    while day <= last:
        if stays[0][0] == stays[1][0]:
            return (day, stays[0][0])
        ends = [end_day(ring, reader, number) for reader, number in stays]
        day = min(ends)
        stays = [next_stay(ring, stay) if end == day else stay for stay, end in zip(stays, ends)]
    return None


def check_book(ring, book):
    """Raise UnknownBook unless the ring has this book."""
    if not lies_between(book, 0, ring.books - 1):
        raise UnknownBook("the ring has no such book")


def reader_before(ring, reader):
    """Return the reader from whom a reader gets books."""
    return int(reader - 1) % len(ring)


def reader_after(ring, reader):
    """Return the reader to whom a reader hands on books."""
    return int(reader + 1) % len(ring)


def ended_by(ring, reader, day):
    """Return how many readings of a reader have ended by a day, whatever the day is."""
    low = 0
    high = day // ring.days[reader]
    while low < high:
        middle = (low + high) // 2
        if end_day(ring, reader, middle) <= day:
            low = middle + 1
        else:
            high = middle
    return low


def begun_by(ring, reader, day):
    """Return how many readings of a reader have begun by a day."""
    # A reading has begun by a day if it ends by so many days later.
    return ended_by(ring, reader, day + ring.days[reader])


def repetition(ring):
    """Return after how many readings, and how many days later, ends repeat in the long run."""
    if slowest_decides(ring.days, ring.books):
        return (1, max(ring.days))
    return (ring.books, sum(ring.days))


def row_repeats(ring, number, readings, days):
    """Tell whether each reader's reading with this number ends again so many readings and days later."""
    for reader in range(len(ring)):
        if end_day(ring, reader, number + readings) != end_day(ring, reader, number) + days:
            return False
    return True


def last_new_day(ring):
    """Return a day by which all places of books have been seen that ever occur."""
    number, readings, days = settled(ring)
    settled_day = max([end_day(ring, reader, number) for reader in range(len(ring))])
    # From then on, all books are at the same readers again after so many readings of each reader as there are books.
    return settled_day + days * (ring.books // readings)


def first_stay(ring, book):
    """Return the reader who has a book at first, and the number of the reading."""
    reader = 0
    while book >= ring.starts[reader]:
        book -= ring.starts[reader]
        reader += 1
    return (reader, book)


def next_stay(ring, stay):
    """Return the reader to whom a book comes after a reading, and the number of the next reading of it."""
    reader, number = stay
    after = reader_after(ring, reader)
    return (after, number + ring.starts[after])
