"""Points 9 and 10 for many rings, against plain trials of all numbers, with paces from a plain play."""

import functools
import itertools
import math
import random
import unittest
from fractions import Fraction

from readingring.planning import (
    fewest_books, fewest_days_less, first_unlike, helpful_readers, pace_with, slowest_days,
)
from readingring.rings import Ring
from tests.play import Play, SPECIAL_RINGS, all_small_rings, random_rings


@functools.lru_cache(maxsize=None)
def played_pace(days, starts):
    play = Play(days, starts)
    return Fraction(play.round_days, play.round_readings)


def told_pace(days, books):
    """The greater one of the two numbers of point 6."""
    return max(Fraction(max(days)), Fraction(sum(days), books))


def changed(values, index, value):
    return values[:index] + (value,) + values[index + 1:]


class BooksTest(unittest.TestCase):
    def test_pace_with_so_many_books(self):
        for days, starts in random_rings(35, 31, 6):
            ring = Ring(days, starts)
            for books in range(1, 25):
                pace = played_pace(days, (books,) + (0,) * (len(days) - 1))
                self.assertEqual(pace_with(ring, books), (pace.numerator, pace.denominator), (days, books))

    def test_all_numbers_of_books(self):
        for days, starts in SPECIAL_RINGS + random_rings(70, 32):
            ring = Ring(days, starts)
            paces = [told_pace(days, books) for books in range(1, 1001)]
            self.assertEqual([pace_with(ring, books) for books in range(1, 1001)],
                             [(pace.numerator, pace.denominator) for pace in paces])
            self.assertEqual(fewest_books(ring), 1 + paces.index(min(paces)))

    def test_fewest_books_by_play(self):
        for days, starts in all_small_rings() + random_rings(70, 33, 9):
            paces = [played_pace(days, (0,) * (len(days) - 1) + (books,)) for books in range(1, 13)]
            self.assertEqual(fewest_books(Ring(days, starts)), 1 + paces.index(min(paces)), days)


class ReadersTest(unittest.TestCase):
    def test_helpful_readers(self):
        for days, starts in SPECIAL_RINGS + all_small_rings() + random_rings(140, 34) + random_rings(140, 35, 3):
            pace = played_pace(days, starts)
            expected = [reader for reader in range(len(days)) if days[reader] > 1
                        and played_pace(changed(days, reader, days[reader] - 1), starts) < pace]
            self.assertEqual(helpful_readers(Ring(days, starts)), expected, (days, starts))

    def test_slowest_days_by_play(self):
        for days, starts in random_rings(14, 36, 9) + all_small_rings()[::40]:
            for reader in range(len(days)):
                expected = max(more for more in range(1, 31)
                               if played_pace(changed(days, reader, more), starts) == played_pace(days, starts))
                self.assertEqual(slowest_days(Ring(days, starts), reader), expected, (days, starts, reader))

    def test_slowest_days_of_all_numbers(self):
        for days, starts in SPECIAL_RINGS + all_small_rings() + random_rings(140, 37) + random_rings(70, 38, 4):
            books = sum(starts)
            for reader in range(len(days)):
                expected = max(more for more in range(1, 31)
                               if told_pace(changed(days, reader, more), books) == told_pace(days, books))
                self.assertEqual(slowest_days(Ring(days, starts), reader), expected, (days, starts, reader))


class DaysLessTest(unittest.TestCase):
    def test_all_ways_to_be_quicker(self):
        for days, starts in all_small_rings()[::5] + random_rings(12, 39, 3) + [((5, 3, 4), (1, 1, 1))]:
            ring = Ring(days, starts)
            quicker = [(sum(days) - sum(less), told_pace(less, sum(starts)))
                       for less in itertools.product(*[range(1, needed + 1) for needed in days])]
            for target, readings in itertools.product(range(1, 13), range(1, 6)):
                enough = [less for less, pace in quicker if pace <= Fraction(target, readings)]
                expected = min(enough) if enough else None
                self.assertEqual(fewest_days_less(ring, target, readings), expected, (days, starts, target, readings))

    def test_one_day_after_the_other(self):
        chance = random.Random(40)
        for days, starts in SPECIAL_RINGS + random_rings(140, 41):
            for _ in range(12):
                target, readings = chance.choice([(chance.randint(1, 1000), chance.randint(1, 1000)),
                                                  (chance.randint(1, 240), chance.randint(1, 12))])
                needed, less = list(days), 0
                while told_pace(needed, sum(starts)) > Fraction(target, readings) and max(needed) > 1:
                    # One of the slowest readers helps both numbers of the pace.
                    needed[needed.index(max(needed))] -= 1
                    less += 1
                reached = told_pace(needed, sum(starts)) <= Fraction(target, readings)
                self.assertEqual(fewest_days_less(Ring(days, starts), target, readings), less if reached else None,
                                 (days, starts, target, readings))

    def test_by_play(self):
        # Each reader's days less, one by one, and the pace of each ring that comes out of it.
        for days, starts in [((2, 3, 1), (1, 1, 0)), ((4, 2), (1, 2)), ((3, 3, 2), (2, 0, 1)), ((3, 4, 3), (1, 0, 0))]:
            quicker = [(sum(days) - sum(less), played_pace(less, starts))
                       for less in itertools.product(*[range(1, needed + 1) for needed in days])]
            for target, readings in itertools.product(range(1, 12), range(1, 4)):
                enough = [less for less, pace in quicker if pace <= Fraction(target, readings)]
                self.assertEqual(fewest_days_less(Ring(days, starts), target, readings),
                                 min(enough) if enough else None)


class UnlikeTest(unittest.TestCase):
    def check(self, one, other):
        plays = [Play(*one), Play(*other)]
        # Both plays have come to what repeats; two rounds of both of them from there on.
        many = max(len(ends) for play in plays for ends in play.ends)
        many += 2 * math.lcm(*[play.round_readings for play in plays])
        found = [(number, reader) for number in range(many) for reader in range(len(one[0]))
                 if plays[0].end(reader, number) != plays[1].end(reader, number)]
        expected = found[0] if found else None
        self.assertEqual(first_unlike(Ring(*one), Ring(*other)), expected, (one, other))
        return expected

    def test_rings_with_other_books_at_first(self):
        chance = random.Random(42)
        never = 0
        for days, starts in random_rings(100, 43, 9) + random_rings(60, 44, 2):
            reader = chance.randrange(len(days))
            other = changed(starts, reader, starts[reader] + 1)
            if sum(other) > 12:
                other = changed(starts, starts.index(max(starts)), max(starts) - 1)
            never += self.check((days, starts), (days, other)) is None
        self.assertGreater(never, 4)

    def test_rings_with_other_days(self):
        chance = random.Random(45)
        for days, starts in random_rings(100, 46, 9):
            reader = chance.randrange(len(days))
            self.check((days, starts), (changed(days, reader, chance.choice([1, days[reader] + 1])), starts))

    def test_other_rings(self):
        rings = all_small_rings()
        chance = random.Random(47)
        for _ in range(150):
            one = chance.choice(rings)
            other = chance.choice([ring for ring in rings if len(ring[0]) == len(one[0])])
            self.check(one, other)


if __name__ == "__main__":
    unittest.main()
