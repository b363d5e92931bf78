"""Points 4 to 6 for many rings, against a plain play of each ring day by day."""

import unittest

from readingring.rings import Ring
from readingring.schedule import (
    begin_day, book_of, first_meeting, heap_on, longest_heap, readings_by, settled,
)
from tests.play import Play, SPECIAL_RINGS, all_small_rings, random_rings

LATEST = 10 ** 18

# Some far numbers and days, in no step with the rounds of a ring.
LATE = [10 ** 5 + 7, 10 ** 9 + 11, LATEST - 1, LATEST]


class AgainstPlayTest(unittest.TestCase):
    def check_readings(self, ring, play, numbers):
        for reader in range(len(ring)):
            for number in numbers:
                found = (ring(reader, number), begin_day(ring, reader, number), book_of(ring, reader, number))
                expected = (play.end(reader, number), play.begin(reader, number), play.book(reader, number))
                self.assertEqual(found, expected, (ring.days, ring.starts, reader, number))

    def check_days(self, ring, play, days):
        for reader in range(len(ring)):
            for day in days:
                found = (readings_by(ring, reader, day), heap_on(ring, reader, day))
                expected = (play.readings_by(reader, day), play.heap_on(reader, day))
                self.assertEqual(found, expected, (ring.days, ring.starts, reader, day))

    def check_whole(self, ring, play):
        told = (ring.days, ring.starts)
        for reader in range(len(ring)):
            self.assertEqual(longest_heap(ring, reader), play.longest_heap(reader), (told, reader))
        for one in range(ring.books):
            for other in range(one):
                self.assertEqual(first_meeting(ring, other, one), play.first_meeting(other, one), (told, one, other))
        if max(ring.days) * ring.books >= sum(ring.days):
            readings, days = 1, max(ring.days)
        else:
            readings, days = ring.books, sum(ring.days)
        self.assertEqual(settled(ring), (play.settled(readings, days), readings, days), told)

    def check_all(self, days, starts, many):
        ring, play = Ring(days, starts), Play(days, starts)
        self.check_readings(ring, play, [*range(many), *LATE])
        self.check_days(ring, play, [*range(many), *LATE])
        self.check_whole(ring, play)

    def test_all_small_rings(self):
        for days, starts in all_small_rings():
            self.check_all(days, starts, 16)

    def test_special_rings(self):
        for days, starts in SPECIAL_RINGS:
            self.check_all(days, starts, 150)

    def test_random_rings(self):
        for days, starts in random_rings(140, 4):
            self.check_all(days, starts, 40)

    def test_random_rings_of_quick_readers(self):
        # With few days there are many ties, and both numbers of the pace are often equal.
        for days, starts in random_rings(140, 5, 3):
            self.check_all(days, starts, 30)


class LateTest(unittest.TestCase):
    """Late numbers and days against earlier ones of the program itself."""

    def test_ends_repeat_once_settled(self):
        for days, starts in SPECIAL_RINGS + random_rings(70, 6):
            ring = Ring(days, starts)
            first, readings, later = settled(ring)
            for reader in range(len(ring)):
                for number in LATE:
                    rounds = (number - first) // readings
                    early = number - rounds * readings
                    self.assertEqual(ring(reader, number), ring(reader, early) + rounds * later)

    def test_readings_by_the_day_of_an_end(self):
        for days, starts in random_rings(70, 7):
            ring = Ring(days, starts)
            for reader in range(len(ring)):
                for number in [0, 9, 10 ** 15, LATEST // 240 - 1]:
                    day = ring(reader, number)
                    self.assertEqual(readings_by(ring, reader, day), number + 1)
                    self.assertEqual(readings_by(ring, reader, day - 1), number)

    def test_all_books_are_somewhere(self):
        for days, starts in random_rings(70, 8):
            ring = Ring(days, starts)
            for day in [0, 1, 50, LATEST - 1, LATEST]:
                waiting = sum(heap_on(ring, reader, day) for reader in range(len(ring)))
                self.assertLess(waiting, ring.books)
                self.assertLessEqual(ring.books - waiting, len(ring))


if __name__ == "__main__":
    unittest.main()
