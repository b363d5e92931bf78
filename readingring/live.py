"""Live rings: books come and go, readers become quicker or slower, and all of it can be undone."""

from readingring.errors import AlreadyOpen, InvalidOperation
from readingring.tables import (
    carry_out, copied_table, first_table, has_book, is_operation, place_of, places_of,
)


class Course:
    """All that has happened to a live ring, and what was undone.

    A course and its tables are never changed; an operation makes a new one. So
    it is enough to keep a course in order to return to it.
    """

    def __init__(self, tables, operations, undone):
        # One table more than operations: the first one, and the one after each operation in effect.
        self.tables = tables
        self.operations = operations
        self.undone = undone


class LiveRing:
    """A ring that is watched from day 0 on, and changed."""

    def __init__(self, ring):
        self._course = Course((first_table(ring),), (), ())
        # The course at the beginning of a block, within this block.
        self._kept = None

    @classmethod
    def replay(cls, ring, operations):
        """Return a live ring after a list of operations."""
        live = cls(ring)
        live.apply(*operations)
        return live

    @property
    def today(self):
        """The number of the day."""
        return self._course.tables[-1].day

    @property
    def waiting_books(self):
        """A list of the tuples of books that wait at each reader."""
        return list(self._course.tables[-1].heaps)

    @property
    def being_read(self):
        """A list of the book and the last day of each reader's reading, or None."""
        return list(self._course.tables[-1].current)

    @property
    def history(self):
        """The list of all operations in effect."""
        return list(self._course.operations)

    def pass_days(self, count):
        """Let a number of days pass, and return the readings that end in them."""
        return self.apply(("pass_days", count))[0]

    def add(self, reader):
        """Put a new book behind those of a reader, and return its number."""
        return self.apply(("add", reader))[0]

    def set_days(self, reader, days):
        """Let a reader need so many days for later readings, and return the former number."""
        return self.apply(("set_days", reader, days))[0]

    def take(self, book):
        """Take a book away that waits in a heap, and return its reader."""
        return self.apply(("take", book))[0]

    def undo(self):
        """Undo the last operation in effect, and tell whether there was one."""
        course = self._course
        if course.operations == ():
            return False
        undone = course.undone + course.operations[-1:]
        self._course = Course(course.tables[:-1], course.operations[:-1], undone)
        return True

    def redo(self):
        """Execute the operation that was undone last once more, and tell whether there was one."""
        undone = self._course.undone
        if undone == ():
            return False
        _, course = executed(self._course, undone[-1])
        self._course = Course(course.tables, course.operations, undone[:-1])
        return True

    def apply(self, *operations):
        """Execute operations, all or none of them, and return the list of their results."""
        for index, operation in enumerate(operations):
            if not is_operation(operation):
                raise InvalidOperation(index)
        course = self._course
        results = []
        for operation in operations:
            result, course = executed(course, operation)
            results.append(result)
        # Only now, so that nothing has changed if an operation raised an error.
        self._course = course
        return results

    def waiting_after(self, *operations):
        """Return the books that would wait at each reader after operations."""
        with self:
            self.apply(*operations)
            return self.waiting_books

    def __enter__(self):
        if self._kept is not None:
            raise AlreadyOpen("a block cannot be entered within another one")
        self._kept = self._course
        return self

    def __exit__(self, kind, value, trace):
        self._course = self._kept
        self._kept = None

    def __call__(self, book):
        return place_of(self._course.tables[-1], book)

    def __len__(self):
        return len(places_of(self._course.tables[-1]))

    def __contains__(self, book):
        return has_book(self._course.tables[-1], book)


def executed(course, operation):
    """Return the result of an operation, and the course of which it is the last one."""
    table = copied_table(course.tables[-1])
    result = carry_out(table, operation)
    return (result, Course(course.tables + (table,), course.operations + (operation,), ()))
