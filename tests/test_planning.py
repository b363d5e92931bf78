"""Points 9 and 10: more books, quicker readers, rings that part; examples, limits and wrong inputs."""

import unittest

from readingring.errors import InvalidNumber, OtherRing, UnknownReader
from readingring.planning import (
    fewest_books, fewest_days_less, first_unlike, helpful_readers, pace_with, slowest_days,
)
from readingring.rings import Ring
from tests.refusals import NO_NUMBERS, refuse


class PlanningCase(unittest.TestCase):
    def setUp(self):
        self.ring = Ring((2, 3, 1), (1, 1, 0))


class ExamplesTest(PlanningCase):
    """The examples of the interface."""

    def test_books(self):
        self.assertEqual([pace_with(self.ring, 1), pace_with(self.ring, 9), fewest_books(self.ring)],
                         [(6, 1), (3, 1), 2])

    def test_readers(self):
        ring = Ring((2, 5, 1), (1, 1, 0))
        self.assertEqual([helpful_readers(ring), slowest_days(ring, 0), slowest_days(ring, 1)], [[1], 4, 5])

    def test_days_less(self):
        self.assertEqual([fewest_days_less(self.ring, 3, 1), fewest_days_less(self.ring, 5, 2),
                          fewest_days_less(self.ring, 1, 1)], [0, 1, None])
        refuse(self, InvalidNumber, fewest_days_less, self.ring, 0, 1)

    def test_rings_that_part(self):
        self.assertEqual([first_unlike(self.ring, self.ring), first_unlike(self.ring, self.ring.with_days(2, 2))],
                         [None, (0, 2)])
        refuse(self, OtherRing, first_unlike, self.ring, Ring.single(2, 2))


class PaceWithTest(PlanningCase):
    def test_1_and_1000_books(self):
        ring = Ring((30,) * 8, (1,) * 8)
        self.assertEqual([pace_with(ring, books) for books in [1, 7, 8, 1000]], [(240, 1), (240, 7), (30, 1), (30, 1)])
        self.assertEqual(pace_with(ring=ring, books=6), (40, 1))

    def test_lowest_terms(self):
        ring = Ring((5, 5, 5, 5), (1, 0, 0, 0))
        self.assertEqual([pace_with(ring, books) for books in [1, 2, 3, 4]], [(20, 1), (10, 1), (20, 3), (5, 1)])

    def test_other_books_at_first_make_no_difference(self):
        for starts in [(1, 0, 0), (0, 0, 12), (4, 4, 4)]:
            self.assertEqual(pace_with(Ring((2, 3, 2), starts), 2), (7, 2))

    def test_invalid_number(self):
        for books in [0, 1001, -1, 10 ** 5000, *NO_NUMBERS]:
            refuse(self, InvalidNumber, pace_with, self.ring, books)


class FewestBooksTest(PlanningCase):
    def test_limits(self):
        self.assertEqual(fewest_books(Ring((7,) * 8, (12,) + (0,) * 7)), 8)
        self.assertEqual(fewest_books(Ring((30, 1), (12, 0))), 2)
        self.assertEqual(fewest_books(ring=Ring((30,) + (1,) * 7, (1,) + (0,) * 7)), 2)

    def test_quotient_of_whole_days(self):
        self.assertEqual([fewest_books(Ring(days, (1, 0, 0))) for days in [(4, 2, 2), (4, 2, 3), (4, 4, 4), (4, 4, 1)]],
                         [2, 3, 3, 3])


class HelpfulReadersTest(PlanningCase):
    def test_one_slowest_reader(self):
        self.assertEqual(helpful_readers(Ring((3, 9, 5, 1), (3, 3, 3, 3))), [1])

    def test_two_slowest_readers(self):
        self.assertEqual(helpful_readers(Ring((3, 9, 9), (3, 3, 3))), [])

    def test_all_who_need_more_than_one_day(self):
        self.assertEqual(helpful_readers(Ring((2, 3, 1, 2), (1, 0, 0, 0))), [0, 1, 3])

    def test_nobody_can_be_quicker(self):
        self.assertEqual(helpful_readers(Ring.single(1, 1, 1)), [])
        self.assertEqual(helpful_readers(Ring((1, 1, 1), (1, 0, 0))), [])

    def test_both_numbers_are_equal(self):
        # Both numbers are 4: only the slowest reader makes both of them smaller.
        self.assertEqual(helpful_readers(Ring((2, 4, 2), (2, 0, 0))), [1])
        self.assertEqual(helpful_readers(Ring((3, 3, 3), (1, 1, 1))), [])

    def test_smaller_fractions(self):
        # 13 / 3 becomes 12 / 3, and the slowest reader needs 4 days.
        self.assertEqual(helpful_readers(Ring((4, 4, 4, 1), (3, 0, 0, 0))), [0, 1, 2])

    def test_new_list_for_each_call(self):
        ring = Ring((2, 3, 1, 2), (1, 0, 0, 0))
        readers = helpful_readers(ring=ring)
        self.assertIs(readers.__class__, list)
        readers.clear()
        self.assertEqual(helpful_readers(ring), [0, 1, 3])


class SlowestDaysTest(PlanningCase):
    def test_30_days(self):
        self.assertEqual(slowest_days(Ring((30, 1, 1), (6, 6, 0)), 1), 30)
        self.assertEqual(slowest_days(Ring((30, 1, 1), (6, 6, 0)), 0), 30)
        self.assertEqual(slowest_days(Ring((30, 29), (6, 6)), reader=1), 30)

    def test_slowest_reader(self):
        self.assertEqual([slowest_days(Ring((9, 9, 2), (3, 3, 3)), reader) for reader in range(3)], [9, 9, 9])

    def test_as_long_as_the_way_round_is_no_longer(self):
        self.assertEqual([slowest_days(Ring((9, 5, 2), (2, 0, 0)), reader) for reader in range(3)], [9, 7, 4])

    def test_way_round_sets_the_pace(self):
        self.assertEqual([slowest_days(Ring((4, 4, 1), (1, 1, 0)), reader) for reader in range(3)], [4, 4, 1])

    def test_unknown_reader(self):
        for reader in [-1, 3, 8, 10 ** 5000, *NO_NUMBERS]:
            refuse(self, UnknownReader, slowest_days, self.ring, reader)


class FewestDaysLessTest(PlanningCase):
    def test_already_quick_enough(self):
        self.assertEqual([fewest_days_less(self.ring, days, readings) for days, readings in
                          [(3, 1), (1000, 1), (6, 2), (1000, 333)]], [0, 0, 0, 0])

    def test_slowest_readers_alone(self):
        self.assertEqual(fewest_days_less(Ring((9, 8, 7, 1), (3, 3, 3, 3)), 7, 1), 3)
        self.assertEqual(fewest_days_less(Ring((9, 8, 7, 1), (3, 3, 3, 3)), 15, 2), 3)

    def test_way_round(self):
        self.assertEqual(fewest_days_less(Ring((3, 3, 3), (1, 1, 0)), 4, 1), 1)
        self.assertEqual(fewest_days_less(Ring((3, 3, 3), (1, 1, 0)), 3, 1), 3)
        self.assertEqual(fewest_days_less(Ring((3, 3, 3), (1, 1, 0)), 7, 2), 2)

    def test_one_day_each(self):
        ring = Ring((5, 6), (1, 0))
        self.assertEqual([fewest_days_less(ring, days, 1) for days in [11, 10, 3, 2, 1]], [0, 1, 8, 9, None])
        self.assertEqual([fewest_days_less(ring, 2 * days - 1, 2) for days in [11, 3, 2]], [1, 9, None])

    def test_fractions_that_cannot_be_reached(self):
        ring = Ring((5, 6), (6, 6))
        self.assertEqual(fewest_days_less(ring, 1, 1), 9)
        self.assertEqual(fewest_days_less(ring, 1000, 1000), 9)
        self.assertIsNone(fewest_days_less(ring, 999, 1000))
        self.assertIsNone(fewest_days_less(ring, 1, 1000))
        self.assertIsNone(fewest_days_less(Ring.single(1, 1), 1, 2))

    def test_limits(self):
        ring = Ring((30,) * 8, (1,) + (0,) * 7)
        self.assertEqual(fewest_days_less(ring=ring, days=1000, readings=1), 0)
        self.assertEqual(fewest_days_less(ring, 8, 1), 232)
        self.assertEqual(fewest_days_less(ring, 1000, 125), 232)
        self.assertIsNone(fewest_days_less(ring, 1000, 126))

    def test_invalid_number(self):
        for value in [0, 1001, -1, 10 ** 5000, *NO_NUMBERS]:
            refuse(self, InvalidNumber, fewest_days_less, self.ring, value, 1)
            refuse(self, InvalidNumber, fewest_days_less, self.ring, 3, value)
            refuse(self, InvalidNumber, fewest_days_less, self.ring, value, value)


class FirstUnlikeTest(PlanningCase):
    def test_first_reading(self):
        self.assertEqual(first_unlike(self.ring, self.ring.with_days(0, 1)), (0, 0))
        self.assertEqual(first_unlike(one=self.ring, other=self.ring.with_days(1, 4)), (0, 1))

    def test_by_numbers_then_by_readers(self):
        other = self.ring.with_days(2, 2)
        self.assertNotEqual(self.ring(0, 1), other(0, 1))
        self.assertEqual(first_unlike(self.ring, other), (0, 2))
        other = self.ring.with_days(1, 4)
        self.assertNotEqual(self.ring(2, 0), other(2, 0))
        self.assertEqual(first_unlike(self.ring, other), (0, 1))

    def test_another_book(self):
        # With one book more, reader 0 need not wait for the third book of reader 1, who ends on day 9.
        one, other = Ring((2, 3), (2, 1)), Ring((2, 3), (3, 1))
        self.assertEqual([one(0, number) for number in range(5)], [2, 4, 6, 8, 11])
        self.assertEqual([other(0, number) for number in range(5)], [2, 4, 6, 8, 10])
        self.assertEqual(first_unlike(one, other), (4, 0))

    def test_rings_that_never_part(self):
        for one, other in [
            (self.ring, Ring((2, 3, 1), (1, 1, 0))),
            (Ring((6, 6, 2), (1, 5, 2)), Ring((6, 6, 2), (2, 5, 2))),
            (Ring((1, 30), (0, 12)), Ring((1, 30), (0, 2))),
            (Ring((10, 14, 20), (3, 0, 3)), Ring((10, 14, 20), (3, 0, 4))),
        ]:
            self.assertIsNone(first_unlike(one, other))
            self.assertIsNone(first_unlike(other, one))

    def test_rings_that_part_late(self):
        for one, other, expected in [
            (Ring((29, 28), (2, 6)), Ring((29, 28), (2, 7)), (146, 1)),
            (Ring((28, 22, 8, 29, 9, 5), (1, 1, 2, 2, 5, 0)),
             Ring((28, 22, 8, 29, 9, 5), (2, 1, 2, 1, 5, 0)), (132, 0)),
            (Ring((16, 27, 26, 8), (0, 3, 4, 1)), Ring((16, 27, 26, 8), (0, 3, 5, 1)), (82, 2)),
        ]:
            self.assertEqual(first_unlike(one, other), expected)
            self.assertEqual(first_unlike(other, one), expected)

    def test_other_ring(self):
        for many in range(2, 9):
            for other in range(2, 9):
                rings = (Ring.single(*[3] * many), Ring.single(*[3] * other))
                if many == other:
                    self.assertIsNone(first_unlike(*rings))
                else:
                    refuse(self, OtherRing, first_unlike, *rings)

    def test_result_is_a_tuple(self):
        self.assertIs(first_unlike(self.ring, self.ring.with_days(2, 2)).__class__, tuple)


class NothingChangesTest(PlanningCase):
    def test_errors_and_other_calls(self):
        ring, other = Ring((3, 1, 4), (0, 2, 1)), Ring((3, 1, 4), (0, 2, 2))

        def results():
            return [
                [pace_with(ring, books) for books in (1, 2, 1000)], fewest_books(ring), helpful_readers(ring),
                [slowest_days(ring, reader) for reader in range(3)], fewest_days_less(ring, 2, 1),
                first_unlike(ring, other), (ring.days, ring.starts, other.days, other.starts),
            ]

        before = results()
        refuse(self, InvalidNumber, pace_with, ring, 0)
        refuse(self, UnknownReader, slowest_days, ring, 3)
        refuse(self, InvalidNumber, fewest_days_less, ring, 1, 0)
        refuse(self, OtherRing, first_unlike, ring, Ring.single(1, 1))
        self.assertEqual(results(), before)


if __name__ == "__main__":
    unittest.main()
