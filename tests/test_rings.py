"""Points 2 and 3: rings, their checks, properties and signs; the property pace of point 6."""

import unittest
from fractions import Fraction

from readingring.errors import InvalidNumber, InvalidRing, UnknownReader
from readingring.rings import Ring
from tests.play import SPECIAL_RINGS, random_rings
from tests.refusals import NO_NUMBERS, NO_TUPLES, refuse


class InvalidRingTest(unittest.TestCase):
    def assert_invalid(self, days, starts, part, index):
        error = refuse(self, InvalidRing, Ring, days, starts)
        self.assertEqual((error.part, error.index), (part, index), (days, starts))

    def test_limits_are_valid(self):
        for days, starts in [
            ((1, 30), (1, 0)), ((30, 1), (0, 1)), ((1, 1), (12, 0)), ((1, 1), (0, 12)), ((2, 3), (6, 6)),
            ((1,) * 8, (1,) * 8), ((30,) * 8, (0, 0, 0, 0, 0, 0, 0, 12)), ((4, 5, 6), (0, 0, 1)),
        ]:
            ring = Ring(days, starts)
            self.assertEqual((ring.days, ring.starts), (days, starts))

    def test_days_out_of_the_limits(self):
        self.assert_invalid((0, 3, 1), (1, 1, 0), "days", 0)
        self.assert_invalid((2, 31, 1), (1, 1, 0), "days", 1)
        self.assert_invalid((2, 3, -1), (1, 1, 0), "days", 2)
        self.assert_invalid((2, 0, 31), (1, 1, 0), "days", 1)
        self.assert_invalid((10 ** 18, 3), (1, 1), "days", 0)

    def test_days_that_are_no_numbers(self):
        for value in NO_NUMBERS:
            self.assert_invalid((value, 3, 1), (1, 1, 0), "days", 0)
            self.assert_invalid((2, 3, value), (1, 1, 0), "days", 2)

    def test_a_ninth_reader(self):
        self.assert_invalid((1,) * 9, (1,) * 9, "days", 8)
        self.assert_invalid((1,) * 20, (1,) * 8, "days", 8)
        self.assert_invalid((1,) * 8 + (31,), (1,) * 9, "days", 8)
        self.assert_invalid((1, 1, 1, 0, 1, 1, 1, 1, 1), (1,) * 9, "days", 3)

    def test_fewer_than_two_readers(self):
        self.assert_invalid((), (), "days", 0)
        self.assert_invalid((5,), (1,), "days", 1)
        self.assert_invalid((31,), (1,), "days", 0)

    def test_days_that_are_no_tuple(self):
        for value in NO_TUPLES:
            self.assert_invalid(value, (1, 1), "days", 0)

    def test_starts_out_of_the_limits(self):
        self.assert_invalid((2, 3, 1), (-1, 1, 0), "starts", 0)
        self.assert_invalid((2, 3, 1), (1, 13, 0), "starts", 1)
        self.assert_invalid((2, 3, 1), (0, 0, 13), "starts", 2)
        self.assert_invalid((2, 3, 1), (12, 12, -1), "starts", 2)

    def test_starts_that_are_no_numbers(self):
        for value in NO_NUMBERS:
            self.assert_invalid((2, 3, 1), (value, 1, 0), "starts", 0)
            self.assert_invalid((2, 3, 1), (1, 1, value), "starts", 2)

    def test_superfluous_starts(self):
        self.assert_invalid((2, 3), (1, 1, 0), "starts", 2)
        self.assert_invalid((2, 3), (1, 1, 99, 0), "starts", 2)
        self.assert_invalid((2, 3), (0, 0, 1), "starts", 2)
        self.assert_invalid((2, 3), (12, 12, 12), "starts", 2)
        self.assert_invalid((2, 3), (1, 13, 0), "starts", 1)

    def test_missing_starts(self):
        self.assert_invalid((2, 3, 1), (), "starts", 0)
        self.assert_invalid((2, 3, 1), (1, 1), "starts", 2)
        self.assert_invalid((2, 3, 1), (0,), "starts", 1)
        self.assert_invalid((2, 3, 1), (12, 12), "starts", 2)
        self.assert_invalid((2, 3, 1), (1, 13), "starts", 1)

    def test_starts_that_are_no_tuple(self):
        for value in NO_TUPLES:
            self.assert_invalid((2, 3), value, "starts", 0)

    def test_no_books_or_more_than_twelve(self):
        self.assert_invalid((2, 3, 1), (0, 0, 0), "starts", -1)
        self.assert_invalid((2, 3), (12, 1), "starts", -1)
        self.assert_invalid((2, 3), (7, 6), "starts", -1)
        self.assert_invalid((1,) * 8, (2, 2, 2, 2, 2, 2, 1, 0), "starts", -1)

    def test_days_are_checked_first(self):
        self.assert_invalid((2, 31), (0, 13), "days", 1)
        self.assert_invalid((5,), (0, 0), "days", 1)
        self.assert_invalid(None, None, "days", 0)
        self.assert_invalid((1,) * 9, [], "days", 8)

    def test_lists_stay_as_they_are(self):
        days, starts = [2, 3], [1, 1]
        refuse(self, InvalidRing, Ring, days, (1, 1))
        refuse(self, InvalidRing, Ring, (2, 3), starts)
        self.assertEqual((days, starts), ([2, 3], [1, 1]))


class SingleTest(unittest.TestCase):
    def test_one_book_each(self):
        self.assertEqual(Ring.single(2, 2).starts, (1, 1))
        self.assertEqual(Ring.single(4, 1, 30).days, (4, 1, 30))
        self.assertEqual(Ring.single(1, 2, 3, 4, 5, 6, 7, 8), Ring((1, 2, 3, 4, 5, 6, 7, 8), (1,) * 8))
        self.assertEqual(Ring.single(2, 2)(1, 10 ** 18), 2000000000000000002)

    def test_invalid(self):
        for days, index in [
            ((), 0), ((5,), 1), ((0,), 0), ((2, 31), 1), ((2, 0), 1), ((1,) * 9, 8), ((1,) * 13, 8),
            ((True, 2), 0), ((2, None), 1), (((2, 3),), 0), (("2", "3"), 0), (([2, 3], 4), 0),
        ]:
            error = refuse(self, InvalidRing, Ring.single, *days)
            self.assertEqual((error.part, error.index), ("days", index), days)


class PropertiesTest(unittest.TestCase):
    def test_document_example(self):
        ring = Ring((2, 3, 1), (1, 1, 0))
        self.assertEqual([len(ring), ring[1], ring.books, ring.pace, (ring >> 1).days],
                         [3, (3, 1), 2, (3, 1), (3, 1, 2)])

    def test_arguments_by_name(self):
        ring = Ring(days=(2, 3, 1), starts=(1, 1, 0))
        self.assertEqual(ring.with_days(reader=2, days=7).days, (2, 3, 7))
        self.assertEqual(ring(reader=0, number=1), 6)

    def test_books(self):
        for days, starts in SPECIAL_RINGS:
            self.assertEqual(Ring(days, starts).books, sum(starts))

    def test_properties_are_tuples_and_numbers(self):
        ring = Ring((2, 3, 1), (1, 1, 0))
        self.assertEqual([value.__class__ for value in (ring.days, ring.starts, ring.books, ring.pace)],
                         [tuple, tuple, int, tuple])

    def test_rings_never_change(self):
        ring = Ring((2, 3, 1), (1, 1, 0))
        for name in ["days", "starts", "books", "pace"]:
            with self.assertRaises(AttributeError):
                setattr(ring, name, (1, 1, 1))
        ring >> 1
        ring.with_days(0, 9)
        refuse(self, InvalidRing, ring.with_days, 0, 31)
        refuse(self, UnknownReader, ring, 3, 0)
        self.assertEqual((ring.days, ring.starts, ring.books, ring.pace), ((2, 3, 1), (1, 1, 0), 2, (3, 1)))

    def test_pace_of_the_slowest_reader(self):
        self.assertEqual(Ring((2, 3, 1), (1, 1, 0)).pace, (3, 1))
        self.assertEqual(Ring((2, 9, 1), (0, 2, 0)).pace, (9, 1))
        self.assertEqual(Ring((1, 1), (12, 0)).pace, (1, 1))

    def test_pace_of_the_way_round(self):
        self.assertEqual(Ring((2, 3, 1), (1, 0, 0)).pace, (6, 1))
        self.assertEqual(Ring((4, 4, 1), (1, 1, 0)).pace, (9, 2))
        self.assertEqual(Ring((3, 3, 3, 3), (0, 3, 0, 0)).pace, (4, 1))
        self.assertEqual(Ring((3, 3, 2, 2), (4, 0, 0, 0)).pace, (3, 1))
        self.assertEqual(Ring((2, 2, 2, 2, 2), (1, 1, 1, 1, 0)).pace, (5, 2))
        self.assertEqual(Ring((3, 3, 3, 3, 3), (0, 0, 0, 0, 4)).pace, (15, 4))

    def test_pace_if_both_numbers_are_equal(self):
        self.assertEqual(Ring((4, 2, 2), (2, 0, 0)).pace, (4, 1))
        self.assertEqual(Ring((3, 3, 3), (1, 1, 1)).pace, (3, 1))

    def test_pace_is_the_greater_number_in_lowest_terms(self):
        for days, starts in SPECIAL_RINGS + random_rings(200, 2):
            pace = max(Fraction(max(days)), Fraction(sum(days), sum(starts)))
            self.assertEqual(Ring(days, starts).pace, (pace.numerator, pace.denominator), (days, starts))


class SignsTest(unittest.TestCase):
    def setUp(self):
        self.ring = Ring((2, 3, 1), (1, 1, 0))

    def test_len(self):
        for many in range(2, 9):
            self.assertEqual(len(Ring.single(*[2] * many)), many)

    def test_index(self):
        self.assertEqual([self.ring[reader] for reader in range(3)], [(2, 1), (3, 1), (1, 0)])

    def test_unknown_index(self):
        for reader in [-1, -3, 3, 8, 10 ** 30, *NO_NUMBERS]:
            refuse(self, UnknownReader, lambda: self.ring[reader])

    def test_shift(self):
        self.assertEqual((self.ring >> 0).days, (2, 3, 1))
        self.assertEqual([(self.ring >> 1).days, (self.ring >> 1).starts], [(3, 1, 2), (1, 0, 1)])
        self.assertEqual([(self.ring >> 2).days, (self.ring >> 2).starts], [(1, 2, 3), (0, 1, 1)])
        self.assertEqual((self.ring >> 1) >> 2, self.ring)
        self.assertEqual((Ring.single(1, 2, 3, 4, 5, 6, 7, 8) >> 7).days, (8, 1, 2, 3, 4, 5, 6, 7))

    def test_shift_keeps_ends(self):
        for days, starts in random_rings(14, 3):
            ring = Ring(days, starts)
            for steps in range(len(days)):
                turned = ring >> steps
                for reader in range(len(days)):
                    for number in [0, 1, 5, 20, 10 ** 18]:
                        self.assertEqual(turned(reader, number), ring((reader + steps) % len(days), number))

    def test_invalid_shift(self):
        for steps in [-1, 3, 8, 10 ** 30, *NO_NUMBERS]:
            refuse(self, InvalidNumber, lambda: self.ring >> steps)

    def test_equality(self):
        same = Ring((2, 3, 1), (1, 1, 0))
        self.assertTrue(self.ring == same)
        self.assertFalse(self.ring != same)
        for other in [
            Ring((2, 3, 2), (1, 1, 0)), Ring((2, 3, 1), (1, 0, 1)), Ring((2, 3, 1), (1, 1, 1)),
            Ring((2, 3), (1, 1)), self.ring >> 1, self.ring.with_days(0, 3),
        ]:
            self.assertFalse(self.ring == other)
            self.assertTrue(self.ring != other)

    def test_not_equal_to_anything_else(self):
        for other in [((2, 3, 1), (1, 1, 0)), (2, 3, 1), [(2, 1), (3, 1), (1, 0)], None, 3, True, "", object()]:
            self.assertFalse(self.ring == other)
            self.assertFalse(other == self.ring)
            self.assertTrue(self.ring != other)

    def test_rings_are_not_walked(self):
        def unpack():
            one, two, three = self.ring
            return one, two, three

        def walk():
            for item in self.ring:
                return item

        for call in [walk, unpack, lambda: list(self.ring), lambda: tuple(self.ring), lambda: iter(self.ring),
                     lambda: (2, 1) in self.ring, lambda: 5 in self.ring, lambda: [*self.ring]]:
            with self.assertRaises(TypeError):
                call()


class WithDaysTest(unittest.TestCase):
    def setUp(self):
        self.ring = Ring((2, 3, 1), (1, 1, 0))

    def test_each_reader(self):
        for reader, days, expected in [
            (0, 9, (9, 3, 1)), (1, 1, (2, 1, 1)), (2, 30, (2, 3, 30)), (1, 3, (2, 3, 1)),
        ]:
            other = self.ring.with_days(reader, days)
            self.assertIsInstance(other, Ring)
            self.assertEqual((other.days, other.starts), (expected, (1, 1, 0)))
        self.assertEqual(self.ring.days, (2, 3, 1))

    def test_invalid_days(self):
        for reader in range(3):
            for days in [0, 31, -1, 10 ** 30, *NO_NUMBERS]:
                error = refuse(self, InvalidRing, self.ring.with_days, reader, days)
                self.assertEqual((error.part, error.index), ("days", reader))

    def test_unknown_reader_comes_first(self):
        for reader in [-1, 3, 10 ** 30, *NO_NUMBERS]:
            refuse(self, UnknownReader, self.ring.with_days, reader, 5)
            refuse(self, UnknownReader, self.ring.with_days, reader, 31)


if __name__ == "__main__":
    unittest.main()
