"""A plain play of a live ring, day by day, written apart from the program.

It keeps a deep copy of everything before each operation in effect, so that
undoing is going back to a copy, and before each block. A refused operation
raises `Refused`, with the name of the error and its attribute.
"""

import copy


class Refused(Exception):
    def __init__(self, name, attribute=None):
        Exception.__init__(self, name, attribute)
        self.told = (name, attribute)


def is_whole(value):
    return type(value) is int


class LivePlay:
    def __init__(self, days, starts):
        self.day = 0
        self.days = list(days)
        self.readers = len(days)
        books = iter(range(sum(starts)))
        # For each reader all books that are there; the first one is being read until the day in `until`.
        self.piles = [[next(books) for _ in range(many)] for many in starts]
        self.until = [None] * self.readers
        self.ever = sum(starts)
        self.begin()
        self.log = []
        self.earlier = []
        self.undone = []
        self.block = None

    # What is there.

    def books(self):
        return [book for pile in self.piles for book in pile]

    def place(self, book):
        if is_whole(book):
            for reader in range(self.readers):
                if book in self.piles[reader]:
                    return reader
        raise Refused("UnknownBook")

    def waiting(self):
        return [tuple(pile[1:]) for pile in self.piles]

    def reading(self):
        return [(pile[0], until) if pile else None for pile, until in zip(self.piles, self.until)]

    # One operation.

    def begin(self):
        for reader in range(self.readers):
            if self.until[reader] is None and self.piles[reader]:
                self.until[reader] = self.day + self.days[reader]

    def known(self, reader):
        if not (is_whole(reader) and 0 <= reader < self.readers):
            raise Refused("UnknownReader")

    def pass_days(self, count):
        if not (is_whole(count) and 0 <= count <= 400):
            raise Refused("InvalidNumber")
        ended = []
        for _ in range(count):
            self.day += 1
            today = [reader for reader in range(self.readers) if self.until[reader] == self.day]
            done = [(reader, self.piles[reader].pop(0)) for reader in today]
            for reader, book in done:
                self.until[reader] = None
                self.piles[(reader + 1) % self.readers].append(book)
                ended.append((self.day, reader, book))
            self.begin()
        return ended

    def add(self, reader):
        self.known(reader)
        if len(self.books()) >= 12:
            raise Refused("InvalidNumber")
        self.piles[reader].append(self.ever)
        self.ever += 1
        self.begin()
        return self.ever - 1

    def set_days(self, reader, days):
        self.known(reader)
        if not (is_whole(days) and 1 <= days <= 30):
            raise Refused("InvalidNumber")
        former, self.days[reader] = self.days[reader], days
        return former

    def take(self, book):
        reader = self.place(book)
        if self.piles[reader][0] == book:
            raise Refused("BeingRead", book)
        self.piles[reader].remove(book)
        return reader

    # Histories.

    def kept(self):
        return copy.deepcopy((self.day, self.days, self.piles, self.until, self.ever))

    def go_back(self, kept):
        self.day, self.days, self.piles, self.until, self.ever = copy.deepcopy(kept)

    def execute(self, operation):
        before = self.kept()
        result = getattr(self, operation[0])(*operation[1:])
        self.earlier.append(before)
        self.log.append(operation)
        return result

    def all_kept(self):
        return (self.kept(), list(self.log), copy.deepcopy(self.earlier), list(self.undone))

    def go_all_back(self, kept):
        self.go_back(kept[0])
        self.log, self.earlier, self.undone = list(kept[1]), copy.deepcopy(kept[2]), list(kept[3])

    def apply(self, *operations):
        counts = {"pass_days": 2, "add": 2, "set_days": 3, "take": 2}
        for index, operation in enumerate(operations):
            if type(operation) is not tuple or not operation or type(operation[0]) is not str:
                raise Refused("InvalidOperation", index)
            if counts.get(operation[0]) != len(operation):
                raise Refused("InvalidOperation", index)
        before = self.all_kept()
        results = []
        for operation in operations:
            try:
                results.append(self.execute(operation))
            except Refused:
                self.go_all_back(before)
                raise
            self.undone = []
        return results

    def undo(self):
        if not self.log:
            return False
        self.undone.append(self.log.pop())
        self.go_back(self.earlier.pop())
        return True

    def redo(self):
        if not self.undone:
            return False
        self.execute(self.undone.pop())
        return True

    def enter(self):
        if self.block is not None:
            raise Refused("AlreadyOpen")
        self.block = self.all_kept()

    def leave(self):
        self.go_all_back(self.block)
        self.block = None

    def waiting_after(self, *operations):
        self.enter()
        try:
            self.apply(*operations)
            return self.waiting()
        finally:
            self.leave()
