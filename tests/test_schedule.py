"""Points 4 to 6: readings, heaps, meetings and the settled ring; examples, limits and wrong inputs."""

import unittest

from readingring.errors import InvalidNumber, SameBook, UnknownBook, UnknownReader
from readingring.rings import Ring
from readingring.schedule import (
    begin_day, book_of, first_meeting, heap_on, longest_heap, readings_by, settled,
)
from tests.refusals import NO_NUMBERS, refuse

LATEST = 10 ** 18


def end_of(ring, reader, number):
    return ring(reader, number)


class ExamplesTest(unittest.TestCase):
    """The examples of the interface."""

    def setUp(self):
        self.ring = Ring((2, 3, 1), (1, 1, 0))

    def test_ends(self):
        ring = self.ring
        self.assertEqual([ring(0, 0), ring(1, 0), ring(2, 0), ring(1, 1), ring(0, 1)], [2, 3, 4, 6, 6])

    def test_begin_and_book(self):
        ring = self.ring
        self.assertEqual([begin_day(ring, 1, 1), book_of(ring, 1, 1), book_of(ring, 0, 1), book_of(ring, 2, LATEST)],
                         [3, 0, 1, 1])

    def test_readings_and_heaps(self):
        ring = self.ring
        self.assertEqual([readings_by(ring, 0, 2), readings_by(ring, 0, 1), heap_on(ring, 1, 2), heap_on(ring, 1, 3),
                          longest_heap(ring, 1)], [1, 0, 1, 0, 1])

    def test_settled(self):
        self.assertEqual(settled(self.ring), (1, 1, 3))
        self.assertEqual(settled(Ring((2, 3, 1), (1, 0, 0))), (0, 1, 6))

    def test_meetings(self):
        self.assertEqual(first_meeting(self.ring, 0, 1), (2, 1))
        self.assertIsNone(first_meeting(Ring.single(2, 2), 0, 1))

    def test_errors(self):
        refuse(self, UnknownReader, self.ring, 3, 0)
        refuse(self, InvalidNumber, begin_day, self.ring, 0, -1)
        refuse(self, SameBook, first_meeting, self.ring, 1, 1)


class WrongArgumentsTest(unittest.TestCase):
    def setUp(self):
        self.ring = Ring((2, 3, 1), (1, 1, 0))

    def test_unknown_reader_comes_first(self):
        for call in [end_of, begin_day, book_of, readings_by, heap_on]:
            for reader in [-1, 3, 8, LATEST, *NO_NUMBERS]:
                refuse(self, UnknownReader, call, self.ring, reader, 0)
                refuse(self, UnknownReader, call, self.ring, reader, -1)
                refuse(self, UnknownReader, call, self.ring, reader, None)

    def test_invalid_number_or_day(self):
        for call in [end_of, begin_day, book_of, readings_by, heap_on]:
            for number in [-1, -LATEST, LATEST + 1, 10 ** 19, 10 ** 5000, *NO_NUMBERS]:
                for reader in range(3):
                    refuse(self, InvalidNumber, call, self.ring, reader, number)

    def test_unknown_reader_of_the_longest_heap(self):
        for reader in [-1, 3, 8, LATEST, *NO_NUMBERS]:
            refuse(self, UnknownReader, longest_heap, self.ring, reader)

    def test_unknown_books(self):
        for book in [-1, 2, 12, LATEST, *NO_NUMBERS]:
            refuse(self, UnknownBook, first_meeting, self.ring, book, 0)
            refuse(self, UnknownBook, first_meeting, self.ring, 0, book)
            refuse(self, UnknownBook, first_meeting, self.ring, book, book)

    def test_same_book(self):
        for book in [0, 1]:
            refuse(self, SameBook, first_meeting, self.ring, book, book)

    def test_lists_stay_as_they_are(self):
        value = [1, [2]]
        refuse(self, InvalidNumber, readings_by, self.ring, 0, value)
        refuse(self, UnknownBook, first_meeting, self.ring, value, 0)
        self.assertEqual(value, [1, [2]])

    def test_errors_and_other_calls_change_nothing(self):
        ring = Ring((3, 1, 4), (0, 2, 1))

        def results():
            return [
                [ring(reader, number) for reader in range(3) for number in (0, 5, LATEST)],
                [heap_on(ring, reader, day) for reader in range(3) for day in (0, 5, LATEST)],
                [longest_heap(ring, reader) for reader in range(3)],
                settled(ring), first_meeting(ring, 0, 2), first_meeting(ring, 2, 0),
                (ring.days, ring.starts, ring.books, ring.pace),
            ]

        before = results()
        for call in [end_of, begin_day, book_of, readings_by, heap_on]:
            refuse(self, InvalidNumber, call, ring, 0, LATEST + 1)
            refuse(self, UnknownReader, call, ring, 3, 0)
        refuse(self, SameBook, first_meeting, ring, 1, 1)
        self.assertEqual(results(), before)
        self.assertEqual(results(), before)


class LimitsTest(unittest.TestCase):
    def test_number_and_day_nought(self):
        ring = Ring((2, 3, 1), (0, 2, 1))
        self.assertEqual([ring(reader, 0) for reader in range(3)], [3, 3, 1])
        self.assertEqual([begin_day(ring, reader, 0) for reader in range(3)], [1, 0, 0])
        self.assertEqual([book_of(ring, reader, 0) for reader in range(3)], [2, 0, 2])
        self.assertEqual([readings_by(ring, reader, 0) for reader in range(3)], [0, 0, 0])
        self.assertEqual([heap_on(ring, reader, 0) for reader in range(3)], [0, 1, 0])

    def test_last_number(self):
        ring = Ring((1, 1), (1, 0))
        self.assertEqual([ring(0, LATEST), ring(1, LATEST)], [2 * LATEST + 1, 2 * LATEST + 2])
        self.assertEqual([begin_day(ring, 0, LATEST), begin_day(ring, 1, LATEST)], [2 * LATEST, 2 * LATEST + 1])
        slow = Ring((30, 30, 30, 30, 30, 30, 30, 30), (0, 0, 0, 0, 0, 0, 0, 1))
        self.assertEqual(slow(6, LATEST), 240 * (LATEST + 1))

    def test_last_day(self):
        ring = Ring((1, 1), (1, 1))
        self.assertEqual([readings_by(ring, 0, LATEST), heap_on(ring, 0, LATEST)], [LATEST, 0])
        ring = Ring((1, 3), (6, 6))
        self.assertEqual([readings_by(ring, reader, LATEST) for reader in (0, 1)],
                         [6 + (LATEST - 1) // 3, LATEST // 3])
        # Reader 1 ends a reading on the day before the last one; reader 0 needs one day for the book.
        self.assertEqual([heap_on(ring, reader, LATEST - 1) for reader in (0, 1)], [0, 10])
        self.assertEqual([heap_on(ring, reader, LATEST) for reader in (0, 1)], [0, 11])

    def test_twelve_books_at_one_reader(self):
        ring = Ring((4, 5), (12, 0))
        self.assertEqual([ring(0, number) for number in range(12)], [4 * number + 4 for number in range(12)])
        self.assertEqual([book_of(ring, 0, number) for number in range(14)], [*range(12), 0, 1])
        self.assertEqual(heap_on(ring, 0, 0), 11)
        self.assertEqual(longest_heap(ring, 0), 11)

    def test_books_are_numbered_by_readers(self):
        ring = Ring((1, 1, 1, 1), (2, 0, 3, 1))
        self.assertEqual([book_of(ring, 0, number) for number in range(2)], [0, 1])
        self.assertEqual([book_of(ring, 2, number) for number in range(3)], [2, 3, 4])
        self.assertEqual(book_of(ring, 3, 0), 5)
        self.assertEqual([book_of(ring, 1, number) for number in range(6)], [0, 1, 5, 2, 3, 4])

    def test_book_on_the_day_on_which_a_reading_ends(self):
        # Both readings end on day 2, and each book is read on at once.
        ring = Ring.single(2, 2)
        self.assertEqual([begin_day(ring, 0, 1), begin_day(ring, 1, 1)], [2, 2])
        self.assertEqual([heap_on(ring, 0, 2), heap_on(ring, 1, 2)], [0, 0])


class HeapsAndMeetingsTest(unittest.TestCase):
    def test_readers_who_never_have_a_heap(self):
        ring = Ring((5, 1, 1), (2, 0, 0))
        self.assertEqual([longest_heap(ring, reader) for reader in range(3)], [1, 0, 0])
        self.assertEqual([longest_heap(Ring.single(2, 2), reader) for reader in range(2)], [0, 0])
        self.assertEqual([longest_heap(Ring((7, 3), (0, 1)), reader) for reader in range(2)], [0, 0])

    def test_what_is_being_read_is_not_in_the_heap(self):
        self.assertEqual(longest_heap(Ring((2, 3), (3, 0)), 0), 2)
        self.assertEqual(longest_heap(Ring((2, 3), (1, 1)), 1), 1)

    def test_heaps_that_grow_late(self):
        ring = Ring((29, 1, 30, 1, 1, 1), (4, 0, 0, 4, 4, 0))
        self.assertEqual(longest_heap(ring, 2), 10)
        self.assertEqual(max(heap_on(ring, 2, day) for day in range(7889)), 9)
        self.assertEqual(heap_on(ring, 2, 7889), 10)

    def test_books_that_never_meet(self):
        self.assertIsNone(first_meeting(Ring.single(3, 3, 3), 0, 2))
        self.assertIsNone(first_meeting(Ring((2, 3, 1, 2), (1, 0, 1, 0)), 0, 1))
        self.assertIsNone(first_meeting(Ring.single(1, 1, 1, 1, 1, 1, 1, 1), 7, 3))

    def test_books_that_meet_at_once(self):
        self.assertEqual(first_meeting(Ring((2, 3, 1), (0, 2, 0)), 0, 1), (0, 1))
        self.assertEqual(first_meeting(Ring((2, 3), (12, 0)), 11, 3), (0, 0))

    def test_books_that_meet_late(self):
        ring = Ring((26, 28, 29, 30, 22, 13), (0, 0, 2, 1, 2, 2))
        self.assertEqual(first_meeting(ring, 2, 6), (2044, 3))

    def test_order_of_the_books_makes_no_difference(self):
        ring = Ring((2, 3, 1, 4), (2, 0, 1, 1))
        for one in range(4):
            for other in range(one):
                self.assertEqual(first_meeting(ring, one, other), first_meeting(ring, other, one))

    def test_results_are_of_the_kinds_told(self):
        ring = Ring((2, 3, 1), (1, 1, 0))
        self.assertIs(settled(ring).__class__, tuple)
        self.assertIs(first_meeting(ring, 0, 1).__class__, tuple)
        for value in [ring(0, 1), begin_day(ring, 0, 1), book_of(ring, 0, 1), readings_by(ring, 0, 1),
                      heap_on(ring, 0, 1), longest_heap(ring, 0)]:
            self.assertIs(value.__class__, int)

    def test_arguments_by_name(self):
        ring = Ring((2, 3, 1), (1, 1, 0))
        self.assertEqual(begin_day(ring=ring, reader=1, number=1), 3)
        self.assertEqual(book_of(ring=ring, reader=1, number=1), 0)
        self.assertEqual(readings_by(ring=ring, reader=0, day=2), 1)
        self.assertEqual(heap_on(ring=ring, reader=1, day=2), 1)
        self.assertEqual(longest_heap(ring=ring, reader=1), 1)
        self.assertEqual(settled(ring=ring), (1, 1, 3))
        self.assertEqual(first_meeting(ring=ring, one=0, other=1), (2, 1))


class SettledTest(unittest.TestCase):
    def test_slowest_reader(self):
        self.assertEqual(settled(Ring.single(2, 2)), (0, 1, 2))
        self.assertEqual(settled(Ring((1, 30), (0, 12)))[1:], (1, 30))

    def test_both_numbers_are_equal(self):
        self.assertEqual(settled(Ring((4, 2, 2), (2, 0, 0)))[1:], (1, 4))

    def test_way_round(self):
        self.assertEqual(settled(Ring((4, 4, 1), (1, 1, 0)))[1:], (2, 9))
        # Not in lowest terms: as many readings as there are books, and all days of a round.
        self.assertEqual(settled(Ring((3, 3, 3, 3), (0, 3, 0, 0)))[1:], (3, 12))
        self.assertEqual(settled(Ring((2, 2, 2, 2), (1, 0, 1, 0))), (0, 2, 8))

    def test_late(self):
        self.assertEqual(settled(Ring((29, 1, 30, 1, 1, 1), (4, 0, 0, 4, 4, 0))), (297, 1, 30))
        self.assertEqual(settled(Ring((25, 29, 27, 27, 30, 29, 28, 24), (1, 1, 0, 3, 0, 2, 0, 0))), (12, 7, 219))


if __name__ == "__main__":
    unittest.main()
