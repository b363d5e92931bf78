"""Point 13: diaries and torn diaries; examples, limits and wrong inputs."""

import inspect
import unittest

from readingring.diaries import diary_of, mended
from readingring.errors import DiaryError, InvalidNumber
from readingring.rings import Ring
from tests.refusals import NO_LISTS, NO_NUMBERS, NO_TUPLES, refuse

# One book and two readers who need a day each: all that is in the diary can be told at once.
QUICK_RING = Ring((1, 1), (1, 0))
QUICK_DIARY = [(number + 1, number % 2, 0) for number in range(501)]

NO_ENTRIES = [*NO_TUPLES, [1, 0, 0], (), (1,), (1, 0), (1, 0, 0, 0), (None,) * 2, (None,) * 4, ((1, 0, 0),), "100"]


def first_entries(ring, count):
    return list(diary_of(ring, count))


class ExamplesTest(unittest.TestCase):
    """The examples of the interface."""

    def test_diary(self):
        ring = Ring((2, 3), (2, 0))
        self.assertEqual([list(diary_of(ring, 3)), mended(ring, [(2, None, 0), (None, None, None)])],
                         [[(2, 0, 0), (4, 0, 1), (5, 1, 0)], [(2, 0, 0), (4, 0, 1)]])

    def test_wrong_entry(self):
        error = refuse(self, DiaryError, mended, Ring((2, 3), (2, 0)), [(2, 0, 0), (4, 1, None)])
        self.assertEqual(error.entry, 1)


class DiaryTest(unittest.TestCase):
    def test_no_entries(self):
        self.assertEqual(first_entries(QUICK_RING, 0), [])

    def test_all_counts_from_0_to_500(self):
        for count in range(501):
            self.assertEqual(first_entries(QUICK_RING, count), QUICK_DIARY[:count])

    def test_by_days_then_by_readers(self):
        self.assertEqual(first_entries(Ring.single(2, 2), 5), [(2, 0, 0), (2, 1, 1), (4, 0, 1), (4, 1, 0), (6, 0, 0)])
        self.assertEqual(first_entries(Ring((6, 3, 2), (1, 1, 1)), 7),
                         [(2, 2, 2), (3, 1, 1), (5, 2, 1), (6, 0, 0), (9, 1, 0), (11, 2, 0), (12, 0, 2)])

    def test_count_that_ends_within_a_day(self):
        ring = Ring.single(4, 4, 4, 4, 4, 4, 4, 4)
        for count in range(9):
            self.assertEqual(first_entries(ring, count), [(4, reader, reader) for reader in range(count)])

    def test_late_entries(self):
        entries = first_entries(Ring((30,) * 8, (0, 0, 0, 0, 0, 0, 0, 1)), 500)
        self.assertEqual(entries[-1], (30 * 500, (7 + 499) % 8, 0))
        entries = first_entries(Ring((1, 30), (12, 0)), 500)
        self.assertEqual(entries[:13], [*[(day, 0, day - 1) for day in range(1, 13)], (31, 1, 0)])
        # From day 31 on, reader 1 ends a reading each 30 days, and reader 0 one a day later.
        self.assertEqual(entries[-2:], [(1 + 30 * 244, 1, 243 % 12), (2 + 30 * 244, 0, 243 % 12)])

    def test_generator(self):
        self.assertTrue(inspect.isgeneratorfunction(diary_of))
        entries = diary_of(QUICK_RING, 3)
        self.assertTrue(inspect.isgenerator(entries))
        self.assertEqual([next(entries), next(entries), next(entries), next(entries, None)], [*QUICK_DIARY[:3], None])

    def test_generators_run_apart(self):
        one, other = diary_of(QUICK_RING, 4), diary_of(QUICK_RING, 2)
        self.assertEqual([next(one), next(one), next(other), next(one)],
                         [QUICK_DIARY[0], QUICK_DIARY[1], QUICK_DIARY[0], QUICK_DIARY[2]])

    def test_entries_are_tuples_of_numbers(self):
        for entry in diary_of(Ring((2, 3, 1), (1, 1, 0)), 20):
            self.assertIs(entry.__class__, tuple)
            self.assertEqual([item.__class__ for item in entry], [int] * 3)

    def test_invalid_number(self):
        for count in [-1, 501, -500, 10 ** 18, 10 ** 5000, *NO_NUMBERS]:
            refuse(self, InvalidNumber, first_entries, QUICK_RING, count)
            refuse(self, InvalidNumber, next, diary_of(QUICK_RING, count))

    def test_arguments_by_name(self):
        self.assertEqual(list(diary_of(ring=QUICK_RING, count=1)), [(1, 0, 0)])
        self.assertEqual(mended(ring=QUICK_RING, diary=[(None, 0, 0)]), [(1, 0, 0)])


class MendedTest(unittest.TestCase):
    def assert_wrong(self, diary, entry, ring=QUICK_RING):
        self.assertEqual(refuse(self, DiaryError, mended, ring, diary).entry, entry, diary)

    def test_empty_diary(self):
        self.assertEqual(mended(QUICK_RING, []), [])

    def test_no_numbers_missing(self):
        for many in [1, 2, 3, 499, 500]:
            self.assertEqual(mended(QUICK_RING, QUICK_DIARY[:many]), QUICK_DIARY[:many])

    def test_all_numbers_missing(self):
        for many in [1, 2, 3, 499, 500]:
            self.assertEqual(mended(QUICK_RING, [(None, None, None)] * many), QUICK_DIARY[:many])

    def test_any_numbers_missing(self):
        for kept in range(8):
            torn = [tuple(item if kept >> place & 1 else None for place, item in enumerate(entry))
                    for entry in QUICK_DIARY[:9]]
            self.assertEqual(mended(QUICK_RING, torn), QUICK_DIARY[:9])

    def test_a_501st_entry(self):
        for last in [QUICK_DIARY[500], (None, None, None), (None, 7, None), *NO_ENTRIES]:
            self.assert_wrong(QUICK_DIARY[:500] + [last], 500)
        self.assert_wrong([(None, None, None)] * 2000, 500)
        self.assert_wrong(QUICK_DIARY[:499] + [(None, None, 1), (None, None, None)], 499)
        self.assert_wrong([None] + QUICK_DIARY, 0)

    def test_not_a_list(self):
        for diary in [*NO_LISTS, tuple(QUICK_DIARY[:3]), (None, None, None)]:
            self.assert_wrong(diary, 0)

    def test_entries_that_are_no_tuples_of_three_items(self):
        for value in NO_ENTRIES:
            self.assert_wrong([value], 0)
            self.assert_wrong([(1, 0, 0), value], 1)
            self.assert_wrong([(None, None, None), (2, None, None), value, (4, None, None)], 2)

    def test_other_numbers(self):
        diary = list(diary_of(Ring((2, 3, 1), (1, 1, 0)), 12))
        for index, entry in enumerate(diary):
            for place in range(3):
                for wrong in [entry[place] - 1, entry[place] + 1, -1, 10 ** 18, -(10 ** 5000)]:
                    if wrong != entry[place]:
                        torn = diary[:index] + [entry[:place] + (wrong,) + entry[place + 1:]] + diary[index + 1:]
                        self.assert_wrong(torn, index, Ring((2, 3, 1), (1, 1, 0)))

    def test_items_that_are_no_numbers(self):
        for value in NO_NUMBERS:
            if value is not None:
                for place in range(3):
                    entry = QUICK_DIARY[3][:place] + (value,) + QUICK_DIARY[3][place + 1:]
                    self.assert_wrong(QUICK_DIARY[:3] + [entry, (None, None, None)], 3)
                    self.assert_wrong([(None,) * place + (value,) + (None,) * (2 - place)], 0)

    def test_true_and_false_are_not_1_and_0(self):
        for entry in [(True, 0, 0), (1, False, 0), (1, 0, False), (True, None, None), (None, False, None)]:
            self.assert_wrong([entry], 0)
        self.assert_wrong([(1, 0, 0), (2, True, 0)], 1)
        self.assert_wrong([(1, 0, 0), (None, True, None)], 1)

    def test_first_wrong_entry(self):
        self.assert_wrong([(1, 0, 0), (9, 1, 0), None, (9, 9, 9)], 1)
        self.assert_wrong([(1, 0, 0), None, (9, 9, 9)], 1)

    def test_no_entry_is_missing_ahead_of_others(self):
        self.assert_wrong([(2, 1, 0)], 0)
        self.assert_wrong([(1, 0, 0), (3, 0, 0)], 1)
        self.assert_wrong([(None, None, None), (None, 0, None)], 1)
        self.assert_wrong([(1, 0, 0), (1, 0, 0)], 1)

    def test_entries_of_a_day_are_in_the_order_of_readers(self):
        ring = Ring.single(2, 2)
        self.assert_wrong([(2, 1, 1), (2, 0, 0)], 0, ring)
        self.assertEqual(mended(ring, [(2, None, 0), (2, None, 1)]), [(2, 0, 0), (2, 1, 1)])

    def test_the_diary_is_neither_changed_nor_kept(self):
        torn = [(None, 0, 0), (2, None, None)]
        entries = mended(QUICK_RING, torn)
        self.assertEqual(torn, [(None, 0, 0), (2, None, None)])
        torn.clear()
        self.assertEqual(entries, QUICK_DIARY[:2])
        whole = QUICK_DIARY[:2]
        mended(QUICK_RING, whole).clear()
        self.assertEqual(whole, QUICK_DIARY[:2])
        self.assertEqual(mended(QUICK_RING, whole), QUICK_DIARY[:2])

    def test_wrong_diaries_stay_as_they_are(self):
        value = [[1], {}, (1, [2], 3)]
        self.assert_wrong(value, 0)
        self.assertEqual(value, [[1], {}, (1, [2], 3)])


if __name__ == "__main__":
    unittest.main()
