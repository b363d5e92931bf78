"""Point 14: observers of hidden days; examples, limits and wrong inputs."""

import unittest

from readingring.diaries import DaysObserver
from readingring.errors import Contradiction, InvalidNumber, UnknownReader
from readingring.rings import Ring
from tests.refusals import NO_NUMBERS, refuse

LATEST = 10 ** 18
ALL_DAYS = list(range(1, 31))
NO_READERS = [-1, 2, 8, LATEST, 10 ** 5000, *NO_NUMBERS]
NO_READING_NUMBERS = [-1, LATEST + 1, 10 ** 5000, *NO_NUMBERS]

# Days that are no day on which a reading of these rings could end.
IMPOSSIBLE_DAYS = [0, 1, -1, -5, -LATEST, -(10 ** 5000), LATEST, LATEST + 1, 10 ** 30, 10 ** 5000, *NO_NUMBERS,
                   (5,), [5], "5", [[]], ((),), {}]


def seen(observer):
    """All that an observer of a ring of two readers shows."""
    ends = [observer.possible_ends(reader, number) for reader in range(2) for number in (0, 1, 2, 20)]
    telling = [observer.telling_number(reader, 20) for reader in range(2)]
    return (observer.possible_days, observer.observations, ends, telling)


class ObserverCase(unittest.TestCase):
    def setUp(self):
        self.ring = Ring((2, 3), (2, 0))
        self.observer = DaysObserver(self.ring, 1)
        # Reader 0 waits for the book of reader 1, if that one needs more than 10 days.
        self.waiting = DaysObserver(Ring((10, 1), (1, 1)), 1)


class ExamplesTest(ObserverCase):
    """The examples of the interface."""

    def test_observations(self):
        observer = self.observer
        self.assertEqual(
            [observer.see_open(1, 0, 6), observer.possible_days[0], observer.see_end(1, 0, 7),
             observer.possible_ends(1, 1)],
            [26, 5, 1, [12]])

    def test_contradiction(self):
        refuse(self, Contradiction, self.observer.see_end, 0, 0, 3)

    def test_telling_number_and_log(self):
        self.assertEqual(
            [DaysObserver(self.ring, 1).telling_number(1, 5),
             DaysObserver.from_log(self.ring, 1, [("see_end", 1, 0, 5)]).possible_days],
            [0, [3]])


class BeginningTest(ObserverCase):
    def test_all_days_are_possible(self):
        for reader in range(2):
            observer = DaysObserver(self.ring, reader)
            self.assertEqual((observer.possible_days, observer.observations), (ALL_DAYS, []))

    def test_days_of_the_reader_in_the_ring_make_no_difference(self):
        for days in ALL_DAYS:
            observer = DaysObserver(Ring((2, days), (2, 0)), 1)
            self.assertEqual(observer.see_end(1, 0, 19), 1)
            self.assertEqual(observer.possible_days, [17])

    def test_the_ring_stays_as_it_is(self):
        self.observer.see_end(1, 0, 9)
        self.assertEqual((self.ring.days, self.ring.starts), ((2, 3), (2, 0)))

    def test_unknown_reader(self):
        for reader in NO_READERS:
            refuse(self, UnknownReader, DaysObserver, self.ring, reader)
            refuse(self, UnknownReader, DaysObserver.from_log, self.ring, reader, [])
            refuse(self, UnknownReader, DaysObserver.from_log, self.ring, reader, [("see_end", 0, 0, -1)])

    def test_all_readers_of_a_ring(self):
        ring = Ring.single(1, 2, 3, 4, 5, 6, 7, 8)
        for reader in range(8):
            observer = DaysObserver(ring, reader)
            self.assertEqual(observer.see_end(reader, 0, reader + 20), 1)
            self.assertEqual(observer.possible_days, [reader + 20])
        refuse(self, UnknownReader, DaysObserver, ring, 8)

    def test_observers_run_apart(self):
        other = DaysObserver(self.ring, 1)
        self.observer.see_end(1, 0, 9)
        self.assertEqual((other.possible_days, other.observations), (ALL_DAYS, []))

    def test_arguments_by_name(self):
        observer = DaysObserver(ring=self.ring, reader=1)
        self.assertEqual(observer.see_end(reader=0, number=0, day=2), 30)
        self.assertEqual(observer.see_open(reader=1, number=0, day=6), 26)
        self.assertEqual(observer.possible_ends(reader=1, number=0)[0], 7)
        self.assertEqual(observer.telling_number(reader=1, limit=0), 0)
        other = DaysObserver.from_log(ring=self.ring, reader=1, observations=observer.observations)
        self.assertEqual(other.possible_days, observer.possible_days)


class SeeEndTest(ObserverCase):
    def test_one_number_of_days_remains(self):
        for days in ALL_DAYS:
            observer = DaysObserver(self.ring, 1)
            self.assertEqual(observer.see_end(1, 0, 2 + days), 1)
            self.assertEqual(observer.possible_days, [days])

    def test_none_remains(self):
        for day in [2, 33]:
            refuse(self, Contradiction, self.observer.see_end, 1, 0, day)

    def test_all_remain(self):
        self.assertEqual([self.observer.see_end(0, 0, 2), self.observer.see_end(0, 1, 4)], [30, 30])
        self.assertEqual(self.observer.possible_days, ALL_DAYS)

    def test_some_remain(self):
        self.assertEqual(self.waiting.see_end(0, 1, 20), 10)
        self.assertEqual(self.waiting.possible_days, list(range(1, 11)))

    def test_two_remain_then_one(self):
        ring = Ring((2, 9), (2, 0))
        observer = DaysObserver(ring, 1)
        # Reader 1 begins on day 2, and reader 0 ends the next reading on day 6, if the book is there by day 4.
        self.assertEqual(observer.see_end(0, 2, 6), 2)
        self.assertEqual(observer.possible_days, [1, 2])
        self.assertEqual(observer.see_end(1, 0, 4), 1)
        self.assertEqual(observer.possible_days, [2])

    def test_late_reading(self):
        self.assertEqual(self.waiting.see_end(0, LATEST, 10 * (LATEST + 1)), 10)
        self.assertEqual(self.waiting.see_end(1, LATEST, 10 * (LATEST + 1)), 1)
        self.assertEqual(self.waiting.possible_days, [10])

    def test_the_day_may_be_anything(self):
        for day in IMPOSSIBLE_DAYS:
            for reader in range(2):
                refuse(self, Contradiction, self.observer.see_end, reader, 0, day)
                refuse(self, Contradiction, self.waiting.see_end, reader, 3, day)
        self.assertEqual((self.observer.possible_days, self.observer.observations), (ALL_DAYS, []))

    def test_true_is_not_day_1(self):
        observer = DaysObserver(Ring((1, 1), (1, 0)), 1)
        refuse(self, Contradiction, observer.see_end, 0, 0, True)
        self.assertEqual(observer.see_end(0, 0, 1), 30)
        self.assertEqual(observer.observations, [("see_end", 0, 0, 1)])


class SeeOpenTest(ObserverCase):
    def test_a_reading_that_ends_on_the_day_has_ended_by_it(self):
        for day in range(2, 32):
            observer = DaysObserver(self.ring, 1)
            self.assertEqual(observer.see_open(1, 0, day), 32 - day)
            self.assertEqual(observer.possible_days, list(range(day - 1, 31)))

    def test_none_remains(self):
        for day in [32, 33, LATEST]:
            refuse(self, Contradiction, self.observer.see_open, 1, 0, day)
        for day in [2, 3, LATEST]:
            refuse(self, Contradiction, self.observer.see_open, 0, 0, day)

    def test_some_remain(self):
        self.assertEqual(self.waiting.see_open(0, 1, 20), 20)
        self.assertEqual(self.waiting.possible_days, list(range(11, 31)))

    def test_day_and_number_0(self):
        for reader in range(2):
            self.assertEqual(self.observer.see_open(reader, 0, 0), 30)

    def test_last_day_and_last_number(self):
        self.assertEqual(self.waiting.see_open(0, LATEST, LATEST), 30)
        # Readers 0 and 1 have ended as many readings, days times as long ago, if they need a day each.
        observer = DaysObserver(Ring((1, 1), (1, 1)), 0)
        self.assertEqual(observer.see_open(1, LATEST - 1, LATEST), 29)
        self.assertEqual(observer.possible_days, list(range(2, 31)))

    def test_invalid_days(self):
        for day in [-1, -LATEST, LATEST + 1, 10 ** 5000, *NO_NUMBERS]:
            for reader in range(2):
                refuse(self, InvalidNumber, self.observer.see_open, reader, 0, day)
                refuse(self, InvalidNumber, self.observer.see_open, reader, LATEST, day)


class WrongReadingsTest(ObserverCase):
    def test_unknown_reader_comes_first(self):
        for call in [self.observer.see_end, self.observer.see_open]:
            for reader in NO_READERS:
                for number, day in [(0, 2), (-1, -1), (None, None), (LATEST + 1, 0), (0, LATEST + 1), (0, "")]:
                    refuse(self, UnknownReader, call, reader, number, day)

    def test_then_invalid_number(self):
        for call in [self.observer.see_end, self.observer.see_open]:
            for number in NO_READING_NUMBERS:
                for day in [0, 2, -1, LATEST + 1, None, True]:
                    refuse(self, InvalidNumber, call, 1, number, day)

    def test_numbers_0_and_last_are_valid(self):
        for number in [0, LATEST]:
            refuse(self, Contradiction, self.observer.see_end, 1, number, 0)
            self.assertEqual(self.observer.see_open(1, number, 0), 30)


class NotAcceptedTest(ObserverCase):
    def test_nothing_changes(self):
        observer = self.observer
        observer.see_open(1, 0, 6)
        observer.see_end(0, 0, 2)
        before = seen(observer)
        refuse(self, Contradiction, observer.see_end, 1, 0, 6)
        refuse(self, Contradiction, observer.see_open, 1, 0, 32)
        refuse(self, Contradiction, observer.see_end, 0, 0, None)
        refuse(self, UnknownReader, observer.see_end, 2, 0, 7)
        refuse(self, InvalidNumber, observer.see_end, 1, -1, 7)
        refuse(self, InvalidNumber, observer.see_open, 1, 0, -1)
        refuse(self, InvalidNumber, observer.possible_ends, 1, True)
        refuse(self, InvalidNumber, observer.telling_number, 1, 501)
        self.assertEqual(seen(observer), before)
        self.assertEqual(observer.see_end(1, 0, 7), 1)

    def test_later_observations_are_accepted_again(self):
        refuse(self, Contradiction, self.observer.see_end, 1, 0, 2)
        self.assertEqual(self.observer.see_end(1, 0, 3), 1)
        refuse(self, Contradiction, self.observer.see_end, 1, 0, 4)
        refuse(self, Contradiction, self.observer.see_open, 1, 0, 3)
        self.assertEqual(self.observer.see_open(1, 0, 2), 1)
        self.assertEqual(self.observer.observations, [("see_end", 1, 0, 3), ("see_open", 1, 0, 2)])


class ObservationsTest(ObserverCase):
    def test_all_in_order(self):
        observer = self.observer
        steps = [("see_open", 1, 0, 6), ("see_end", 0, 0, 2), ("see_open", 1, 0, 6), ("see_end", 1, 0, 7)]
        for many, (name, reader, number, day) in enumerate(steps):
            self.assertEqual(observer.observations, steps[:many])
            getattr(observer, name)(reader, number, day)
        self.assertEqual(observer.observations, steps)
        self.assertEqual({entry.__class__ for entry in observer.observations}, {tuple})

    def test_lists_are_new_for_each_reading(self):
        self.observer.see_open(1, 0, 6)
        before = seen(self.observer)
        self.observer.possible_days.clear()
        self.observer.possible_days.append(99)
        self.observer.observations.append(("see_end", 1, 0, 7))
        self.observer.observations.clear()
        self.observer.possible_ends(1, 0).clear()
        self.assertEqual(seen(self.observer), before)

    def test_a_list_that_was_read_does_not_change(self):
        days, observations = self.observer.possible_days, self.observer.observations
        self.observer.see_end(1, 0, 7)
        self.assertEqual((days, observations), (ALL_DAYS, []))

    def test_properties_are_not_set(self):
        for name in ["possible_days", "observations"]:
            with self.assertRaises(AttributeError):
                setattr(self.observer, name, [])


class FromLogTest(ObserverCase):
    def test_no_observations(self):
        observer = DaysObserver.from_log(self.ring, 0, [])
        self.assertIs(observer.__class__, DaysObserver)
        self.assertEqual((observer.possible_days, observer.observations), (ALL_DAYS, []))

    def test_the_log_of_an_observer(self):
        for steps in [
            [("see_open", 1, 0, 6)],
            [("see_end", 0, 0, 2), ("see_end", 0, 0, 2)],
            [("see_open", 1, 0, 6), ("see_open", 1, 0, 9), ("see_open", 0, 5, 0), ("see_end", 1, 0, 12)],
        ]:
            observer = DaysObserver(self.ring, 1)
            for name, *arguments in steps:
                getattr(observer, name)(*arguments)
            other = DaysObserver.from_log(self.ring, 1, observer.observations)
            self.assertEqual(seen(other), seen(observer))
            self.assertEqual(other.observations, steps)

    def test_errors(self):
        first = ("see_open", 1, 0, 6)
        for error, entry in [
            (UnknownReader, ("see_end", 2, 0, 7)), (UnknownReader, ("see_open", True, -1, -1)),
            (InvalidNumber, ("see_end", 1, -1, 7)), (InvalidNumber, ("see_open", 1, 0, -1)),
            (InvalidNumber, ("see_open", 1, 0, LATEST + 1)), (InvalidNumber, ("see_open", 1, 0, None)),
            (Contradiction, ("see_end", 1, 0, 2)), (Contradiction, ("see_end", 1, 0, None)),
            (Contradiction, ("see_open", 1, 0, 32)),
        ]:
            refuse(self, error, DaysObserver.from_log, self.ring, 1, [entry])
            refuse(self, error, DaysObserver.from_log, self.ring, 1, [first, entry])
            refuse(self, error, DaysObserver.from_log, self.ring, 1, [first, first, entry, ("see_end", 9, 9, 9)])

    def test_observations_that_contradict_one_another(self):
        self.assertEqual(DaysObserver.from_log(self.ring, 1, [("see_end", 1, 0, 6)]).possible_days, [4])
        for steps in [
            [("see_open", 1, 0, 6), ("see_end", 1, 0, 6)], [("see_end", 1, 0, 6), ("see_open", 1, 0, 6)],
            [("see_end", 1, 0, 6), ("see_end", 1, 0, 7)],
        ]:
            refuse(self, Contradiction, DaysObserver.from_log, self.ring, 1, steps)

    def test_the_list_is_neither_changed_nor_kept(self):
        steps = [("see_open", 1, 0, 6), ("see_end", 0, 0, 2)]
        observer = DaysObserver.from_log(self.ring, 1, steps)
        self.assertEqual(steps, [("see_open", 1, 0, 6), ("see_end", 0, 0, 2)])
        before = seen(observer)
        steps.clear()
        self.assertEqual(seen(observer), before)
        observer.see_end(1, 0, 7)
        self.assertEqual(steps, [])


class PossibleEndsTest(ObserverCase):
    def test_ascending(self):
        self.assertEqual(self.observer.possible_ends(1, 0), list(range(3, 33)))
        self.assertEqual(self.observer.possible_ends(0, 0), [2])

    def test_each_day_once(self):
        self.assertEqual(self.waiting.possible_ends(0, 1), list(range(20, 41)))

    def test_one_day_at_last(self):
        self.observer.see_end(1, 0, 7)
        for number in [0, 1, 2, LATEST]:
            self.assertEqual(self.observer.possible_ends(1, number), [7 + 5 * number])

    def test_late_reading(self):
        self.assertEqual(self.waiting.possible_ends(0, LATEST),
                         [10 * LATEST + 10, *[10 + days * LATEST for days in range(11, 31)]])

    def test_errors(self):
        for reader in NO_READERS:
            for number in [0, *NO_READING_NUMBERS]:
                refuse(self, UnknownReader, self.observer.possible_ends, reader, number)
        for number in NO_READING_NUMBERS:
            refuse(self, InvalidNumber, self.observer.possible_ends, 0, number)

    def test_nothing_is_recorded(self):
        self.observer.possible_ends(1, 0)
        self.observer.telling_number(1, 500)
        self.assertEqual((self.observer.possible_days, self.observer.observations), (ALL_DAYS, []))


class TellingNumberTest(ObserverCase):
    def test_first_number(self):
        self.assertEqual([self.observer.telling_number(reader, 500) for reader in range(2)], [None, 0])
        observer = DaysObserver(Ring((10, 1), (1, 0)), 1)
        self.assertEqual([observer.telling_number(reader, 500) for reader in range(2)], [1, 0])

    def test_the_limit_is_included(self):
        observer = DaysObserver(Ring((10, 1), (1, 0)), 1)
        self.assertEqual([observer.telling_number(0, limit) for limit in [0, 1, 2, 500]], [None, 1, 1, 1])

    def test_late_number(self):
        # Reader 0 has so many books at first that it takes long until 29 and 30 days make a difference.
        observer = DaysObserver(Ring((29, 1), (12, 0)), 1)
        self.assertEqual(observer.see_open(1, 0, 29 + 28), 2)
        self.assertEqual(observer.possible_days, [29, 30])
        self.assertEqual([observer.telling_number(0, limit) for limit in [0, 301, 302, 303, 500]],
                         [None, None, 302, 302, 302])

    def test_days_that_make_no_difference(self):
        self.assertIsNone(self.waiting.telling_number(0, 500))
        self.waiting.see_open(0, 1, 20)
        self.assertEqual(self.waiting.telling_number(0, 500), 1)

    def test_one_possible_number_of_days(self):
        self.observer.see_end(1, 0, 7)
        for limit in [0, 1, 500]:
            self.assertEqual([self.observer.telling_number(reader, limit) for reader in range(2)], [0, 0])

    def test_errors(self):
        for reader in NO_READERS:
            for limit in [0, 501, None]:
                refuse(self, UnknownReader, self.observer.telling_number, reader, limit)
        for limit in [-1, 501, LATEST, 10 ** 5000, *NO_NUMBERS]:
            refuse(self, InvalidNumber, self.observer.telling_number, 1, limit)


if __name__ == "__main__":
    unittest.main()
