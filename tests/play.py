"""A plain play of a ring, day by day, written apart from the program; and rings to try.

The play follows point 4 of the document word by word: on each day, first all
readings that end on it do so and their books come to the next readers, then
readings begin. It goes on until everything is as it was on an earlier day.
From there on all repeats, so that it also tells what happens later.
"""

import random


class Play:
    def __init__(self, days, starts):
        self.days = days
        self.readers = len(days)
        self.books = sum(starts)
        numbers = iter(range(self.books))
        self.heaps = [[next(numbers) for _ in range(many)] for many in starts]
        self.reading = [None] * self.readers
        # For each reader, of each reading: begin, end and book, as far as they have come.
        self.begins = [[] for _ in days]
        self.ends = [[] for _ in days]
        self.order = [[] for _ in days]
        # For each day: how many books wait, how many readings have ended, who has which book.
        self.waiting = []
        self.ended = []
        self.places = []
        self.play_until_all_repeats()

    def play_until_all_repeats(self):
        seen = {}
        day = 0
        while True:
            self.play_day(day)
            state = self.state(day)
            if state in seen:
                break
            seen[state] = day
            day += 1
        self.first_day = seen[state]
        self.round_days = day - self.first_day
        counts = [after - before for before, after in zip(self.ended[self.first_day], self.ended[day])]
        assert len(set(counts)) == 1
        self.round_readings = counts[0]
        # What is in these lists for the last day is there for the first day, too.
        del self.waiting[day], self.ended[day], self.places[day]

    def play_day(self, day):
        came = []
        for reader in range(self.readers):
            if self.reading[reader] is not None and self.reading[reader][1] == day:
                came.append(((reader + 1) % self.readers, self.reading[reader][0]))
                self.ends[reader].append(day)
                self.reading[reader] = None
        for reader, book in came:
            self.heaps[reader].append(book)
        for reader in range(self.readers):
            if self.reading[reader] is None and self.heaps[reader]:
                book = self.heaps[reader].pop(0)
                self.reading[reader] = (book, day + self.days[reader])
                self.begins[reader].append(day)
                self.order[reader].append(book)
        self.record()

    def record(self):
        self.waiting.append([len(heap) for heap in self.heaps])
        self.ended.append([len(ends) for ends in self.ends])
        places = [None] * self.books
        for reader in range(self.readers):
            for book in self.heaps[reader]:
                places[book] = reader
            if self.reading[reader] is not None:
                places[self.reading[reader][0]] = reader
        self.places.append(places)

    def state(self, day):
        left = [None if now is None else (now[0], now[1] - day) for now in self.reading]
        return (tuple(tuple(heap) for heap in self.heaps), tuple(left))

    def rounds_back(self, reader, number):
        """How many rounds earlier the play has such a reading."""
        known = len(self.ends[reader])
        if number < known:
            return 0
        return (number - known) // self.round_readings + 1

    def end(self, reader, number):
        rounds = self.rounds_back(reader, number)
        return self.ends[reader][number - rounds * self.round_readings] + rounds * self.round_days

    def begin(self, reader, number):
        rounds = self.rounds_back(reader, number)
        return self.begins[reader][number - rounds * self.round_readings] + rounds * self.round_days

    def book(self, reader, number):
        rounds = self.rounds_back(reader, number)
        return self.order[reader][number - rounds * self.round_readings]

    def day_rounds_back(self, day):
        known = len(self.waiting)
        if day < known:
            return 0
        return (day - known) // self.round_days + 1

    def readings_by(self, reader, day):
        rounds = self.day_rounds_back(day)
        return self.ended[day - rounds * self.round_days][reader] + rounds * self.round_readings

    def heap_on(self, reader, day):
        return self.waiting[day - self.day_rounds_back(day) * self.round_days][reader]

    def longest_heap(self, reader):
        return max(heaps[reader] for heaps in self.waiting)

    def first_meeting(self, one, other):
        for day, places in enumerate(self.places):
            if places[one] == places[other]:
                return (day, places[one])
        return None

    def settled(self, readings, days):
        """The least number from which on each reader's ends repeat."""
        # Whether ends repeat so is the same again a round later, once all readings are in the part that repeats.
        most = max(len(ends) for ends in self.ends) + self.round_readings
        number = most
        while number > 0 and all(
            self.end(reader, number - 1 + readings) == self.end(reader, number - 1) + days
            for reader in range(self.readers)
        ):
            number -= 1
        assert number < most
        return number


def random_rings(count, seed, most_days=30):
    """Return tuples (days, starts) of rings of 2 to 8 readers, the same ones for the same seed."""
    chance = random.Random(seed)
    rings = []
    for index in range(count):
        readers = 2 + index % 7
        days = tuple(chance.randint(1, most_days) for _ in range(readers))
        starts = [0] * readers
        some = chance.sample(range(readers), chance.randint(1, readers))
        for _ in range(chance.randint(1, 12)):
            starts[chance.choice(some)] += 1
        rings.append((days, tuple(starts)))
    return rings


# Rings at the limits, with ties between the two numbers of the pace, and some that settle late.
SPECIAL_RINGS = [
    ((2, 3, 1), (1, 1, 0)),
    ((2, 3, 1), (1, 0, 0)),
    ((2, 3), (2, 0)),
    ((2, 2), (1, 1)),
    ((1, 1), (1, 0)),
    ((1, 1), (0, 1)),
    ((1, 1), (12, 0)),
    ((1, 30), (0, 12)),
    ((30, 1), (0, 12)),
    ((30, 30), (6, 6)),
    ((3, 3, 3), (1, 1, 1)),
    ((3, 3, 3), (0, 3, 0)),
    ((4, 2, 2), (2, 0, 0)),
    ((4, 2, 2), (0, 1, 1)),
    ((5, 1, 5, 1), (0, 4, 0, 0)),
    ((2, 2, 2, 2), (1, 0, 2, 0)),
    ((3, 1, 2, 3, 1), (0, 0, 1, 1, 0)),
    ((1, 1, 1, 1, 1, 1, 1, 1), (0, 0, 0, 0, 0, 0, 0, 1)),
    ((30, 30, 30, 30, 30, 30, 30, 30), (1, 1, 1, 1, 1, 1, 1, 1)),
    ((30, 30, 30, 30, 30, 30, 30, 29), (0, 7, 0, 0, 0, 0, 0, 0)),
    ((30, 29, 30, 29, 30, 29, 30, 29), (7, 0, 0, 0, 0, 0, 0, 0)),
    ((8, 7, 6, 5, 4, 3, 2, 1), (5, 0, 0, 0, 7, 0, 0, 0)),
    ((2, 5, 1, 5, 2), (0, 0, 0, 12, 0)),
    ((6, 25, 3, 24), (3, 2, 1, 6)),
    ((8, 24, 21, 28, 8, 29), (1, 4, 1, 3, 1, 1)),
    ((29, 1, 30, 1, 1, 1), (4, 0, 0, 4, 4, 0)),
    ((26, 28, 29, 30, 22, 13), (0, 0, 2, 1, 2, 2)),
    ((25, 29, 27, 27, 30, 29, 28, 24), (1, 1, 0, 3, 0, 2, 0, 0)),
]


def all_small_rings():
    """Return all rings of 2 readers, up to 4 days and 3 books, and of 3 readers, up to 3 days and 2 books."""
    rings = []
    for days in [(one, two) for one in range(1, 5) for two in range(1, 5)]:
        for starts in [(one, two) for one in range(4) for two in range(4) if 1 <= one + two <= 3]:
            rings.append((days, starts))
    numbers = range(1, 4)
    for days in [(one, two, three) for one in numbers for two in numbers for three in numbers]:
        for starts in [(1, 0, 0), (0, 1, 0), (0, 0, 1), (1, 1, 0), (0, 2, 0), (1, 0, 1)]:
            rings.append((days, starts))
    return rings
