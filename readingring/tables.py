"""The books of a live ring on a day, and the operations that change them."""

from readingring.checks import check_number, check_reader, is_number
from readingring.errors import BeingRead, InvalidNumber, UnknownBook
from readingring.rings import MOST_BOOKS, MOST_DAYS
from readingring.schedule import reader_after

MOST_PASSED = 400


class Table:
    """What is in the heaps and being read on a day."""

    def __init__(self, ring, day, heaps, current, coming):
        # The ring has the days that readers need for the readings that begin from now on.
        self.ring = ring
        self.day = day
        # For each reader: the tuple of the books that wait; the book and the last day of a reading, or None.
        self.heaps = list(heaps)
        self.current = list(current)
        # The number of the next new book.
        self.coming = coming


def first_table(ring):
    """Return the table of a ring on day 0."""
    heaps = []
    coming = 0
    for many in ring.starts:
        heaps.append(tuple(range(coming, coming + many)))
        coming += many
    table = Table(ring, 0, heaps, [None] * len(ring), coming)
    begin_readings(table)
    return table


def copied_table(table):
    """Return a table that is the same and changes apart from the given one."""
    return Table(table.ring, table.day, table.heaps, table.current, table.coming)


def books_at(table, reader):
    """Return the books at a reader."""
    if table.current[reader] is None:
        # Who is not reading has no heap: a book that comes is begun at once.
        return []
    return [table.current[reader][0], *table.heaps[reader]]


def places_of(table):
    """Return a dict of all books and the readers at whom they are."""
    return {book: reader for reader in range(len(table.ring)) for book in books_at(table, reader)}


def has_book(table, book):
    """Tell whether a book is there."""
    return is_number(book) and book in places_of(table)


def place_of(table, book):
    """Return the reader at whom a book is."""
    if not has_book(table, book):
        raise UnknownBook("there is no such book")
    return places_of(table)[book]


def begin_readings(table):
    """Let each reader who is not reading begin the first book of the heap."""
    for reader, needed in enumerate(table.ring.days):
        heap = table.heaps[reader]
        if table.current[reader] is None and heap != ():
            table.current[reader] = (heap[0], table.day + needed)
            table.heaps[reader] = heap[1:]


def end_readings(table):
    """End the readings that end today, hand on their books, and return them."""
    ended = []
    for reader in range(len(table.ring)):
        reading = table.current[reader]
        if reading is not None and reading[1] == table.day:
            ended.append((table.day, reader, reading[0]))
            table.current[reader] = None
            put_book(table, reader_after(table.ring, reader), reading[0])
    return ended


def put_book(table, reader, book):
    """Put a book behind those that wait at a reader."""
    table.heaps[reader] = table.heaps[reader] + (book,)


def let_pass(table, count):
    """Let a number of days pass, and return the readings that end in them."""
    check_number(count, 0, MOST_PASSED)
    ended = []
    for _ in range(count):
        table.day += 1
        ended.extend(end_readings(table))
        begin_readings(table)
    return ended


def add_book(table, reader):
    """Put a new book behind those of a reader, and return its number."""
    check_reader(table.ring, reader)
    if len(places_of(table)) >= MOST_BOOKS:
        raise InvalidNumber("there cannot be more books")
    book = table.coming
    table.coming += 1
    put_book(table, reader, book)
    begin_readings(table)
    return book


def change_days(table, reader, days):
    """Let a reader need so many days for later readings, and return the former number."""
    check_reader(table.ring, reader)
    check_number(days, 1, MOST_DAYS)
    former = table.ring.days[reader]
    table.ring = table.ring.with_days(reader, days)
    return former


def take_book(table, book):
    """Take a book away that waits in a heap, and return its reader."""
    reader = place_of(table, book)
    if book not in table.heaps[reader]:
        raise BeingRead(book)
    table.heaps[reader] = tuple([other for other in table.heaps[reader] if other != book])
    return reader


ACTIONS = {"pass_days": let_pass, "add": add_book, "set_days": change_days, "take": take_book}
ARGUMENTS = {"pass_days": 1, "add": 1, "set_days": 2, "take": 1}


def is_operation(value):
    """Tell whether a value is a tuple of the name of an operation and as many arguments as it takes."""
    if not isinstance(value, tuple) or value == () or not isinstance(value[0], str):
        return False
    return value[0] in ARGUMENTS and len(value) == 1 + ARGUMENTS[value[0]]


def carry_out(table, operation):
    """Change a table by an operation, and return the result."""
    name, *arguments = operation
    action = ACTIONS[name]
    return action(table, *arguments)
