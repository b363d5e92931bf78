"""Points 13 to 15 for many rings: diaries and charts against a plain play, observers against thirty rings."""

import random
import unittest

from readingring.diaries import DaysObserver, diary_of, mended
from readingring.errors import Contradiction, DiaryError
from readingring.notation import chart
from readingring.rings import Ring
from tests.diary_play import first_wrong_entry, played_chart, played_diary, torn
from tests.play import Play, SPECIAL_RINGS, all_small_rings, random_rings
from tests.refusals import NO_NUMBERS


class DiariesAgainstPlayTest(unittest.TestCase):
    def check_diary(self, days, starts, count):
        entries = played_diary(days, starts, count)
        self.assertEqual(list(diary_of(Ring(days, starts), count)), entries, (days, starts))

    def test_whole_diaries(self):
        for days, starts in SPECIAL_RINGS + random_rings(28, 31, 6):
            self.check_diary(days, starts, 500)

    def test_all_small_rings(self):
        for days, starts in all_small_rings():
            self.check_diary(days, starts, 40)

    def test_random_rings(self):
        for index, (days, starts) in enumerate(random_rings(140, 32) + random_rings(140, 33, 3)):
            self.check_diary(days, starts, index % 61)


class MendedAgainstPlayTest(unittest.TestCase):
    def setUp(self):
        self.chance = random.Random(34)
        self.found = []

    def wrong_entry(self, entry):
        """An entry with a drawn change, which may even be right."""
        place = self.chance.randrange(3)
        item = self.chance.choice([-1, 0, 1, 2, 7, entry[0] + 1, entry[0], 10 ** 20, *NO_NUMBERS])
        changed = entry[:place] + (item,) + entry[place + 1:]
        return self.chance.choice([changed, changed, changed, changed, list(entry), entry[:2], entry + (0,), None, ()])

    def check(self, ring, entries, diary):
        wrong = first_wrong_entry(entries, diary)
        self.found.append(wrong)
        if wrong is None:
            self.assertEqual(mended(ring, diary), entries[:len(diary)])
            return
        with self.assertRaises(DiaryError) as caught:
            mended(ring, diary)
        self.assertEqual(caught.exception.entry, wrong, (ring.days, ring.starts, diary))

    def test_torn_and_changed_diaries(self):
        chance = self.chance
        for days, starts in SPECIAL_RINGS + random_rings(210, 35) + random_rings(210, 36, 3):
            ring, entries = Ring(days, starts), played_diary(days, starts, 30)
            for share in [0, 0.2, 0.7, 1]:
                diary = torn(chance, entries[:chance.randrange(31)], share)
                self.check(ring, entries, diary)
                for index in chance.sample(range(len(diary)), min(2, len(diary))):
                    diary[index] = self.wrong_entry(entries[index])
                self.check(ring, entries, diary)
                if diary:
                    del diary[chance.randrange(len(diary))]
                self.check(ring, entries, diary)
        wrong = [index for index in self.found if index is not None]
        self.assertGreater(len(wrong), 1000)
        self.assertGreater(len(self.found) - len(wrong), 1000)
        self.assertGreater(len(set(wrong)), 25)

    def test_about_500_entries(self):
        for days, starts in random_rings(7, 37):
            ring, entries = Ring(days, starts), played_diary(days, starts, 510)
            for many in [498, 499, 500, 501, 510]:
                self.check(ring, entries[:500], torn(self.chance, entries[:many], 0.4))
        self.assertEqual(self.found, [None, None, None, 500, 500] * 7)


class ChartsAgainstPlayTest(unittest.TestCase):
    def check_charts(self, rings, counts):
        for days, starts in rings:
            for count in counts:
                self.assertEqual(chart(Ring(days, starts), count), played_chart(days, starts, count),
                                 (days, starts, count))

    def test_special_rings(self):
        self.check_charts(SPECIAL_RINGS, [1, 2, 13, 99, 100])

    def test_small_rings(self):
        self.check_charts(all_small_rings(), [1, 2, 3, 8, 21])

    def test_random_rings(self):
        self.check_charts(random_rings(70, 38), [1, 31, 100])
        self.check_charts(random_rings(70, 39, 4), [5, 12, 40])


class ThirtyRings:
    """The plain form of an observer: rings with all numbers of days, asked one by one."""

    def __init__(self, days, starts, reader):
        self.rings = {}
        for needed in range(1, 31):
            self.rings[needed] = Ring(days[:reader] + (needed,) + days[reader + 1:], starts)
        self.log = []

    def ends(self, reader, number):
        return [ring(reader, number) for ring in self.rings.values()]

    def see(self, name, reader, number, day):
        """How many numbers of days remain, or None if none would."""
        left = {}
        for needed, ring in self.rings.items():
            end = ring(reader, number)
            agrees = type(day) is int and (end == day if name == "see_end" else end > day)
            if agrees:
                left[needed] = ring
        if not left:
            return None
        self.rings = left
        self.log.append((name, reader, number, day))
        return len(left)

    def telling_number(self, reader, limit):
        for number in range(limit + 1):
            ends = self.ends(reader, number)
            if all(ends.count(end) == 1 for end in ends):
                return number
        return None


class ObserversTest(unittest.TestCase):
    def drawn_observation(self, chance, plain, truth):
        reader = chance.randrange(len(truth))
        number = chance.choice([0, 0, 1, 2, 3, 5, 9, 20, chance.randrange(100), 10 ** 6, 10 ** 18])
        end = chance.choice([truth(reader, number), truth(reader, number), chance.choice(plain.ends(reader, number))])
        if chance.random() < 0.3:
            day = chance.choice([end, end, end, end - 1, end + 1, -end, -1, 0, 10 ** 30, chance.choice(NO_NUMBERS)])
            return ("see_end", reader, number, day)
        day = min(10 ** 18, max(0, end - chance.choice([0, 1, 1, 1, 2, 5])))
        return ("see_open", reader, number, day)

    def compare_observation(self, observer, plain, observation):
        name, *arguments = observation
        expected = plain.see(*observation)
        try:
            found = getattr(observer, name)(*arguments)
        except Contradiction:
            found = None
        self.assertEqual(found, expected, (plain.log, observation))
        return found

    def compare_states(self, chance, observer, plain, limit):
        self.assertEqual(observer.possible_days, sorted(plain.rings), plain.log)
        self.assertEqual(observer.observations, plain.log)
        readers = len(plain.rings[observer.possible_days[0]])
        for reader in range(readers):
            for number in [0, 1, chance.randrange(40), 10 ** 18]:
                self.assertEqual(observer.possible_ends(reader, number), sorted(set(plain.ends(reader, number))))
            self.assertEqual(observer.telling_number(reader, limit), plain.telling_number(reader, limit), plain.log)

    def test_drawn_observations(self):
        chance = random.Random(41)
        found = []
        for days, starts in SPECIAL_RINGS + random_rings(84, 42) + random_rings(42, 43, 5):
            reader = chance.randrange(len(days))
            ring = Ring(days, starts)
            observer, plain = DaysObserver(ring, reader), ThirtyRings(days, starts, reader)
            self.compare_states(chance, observer, plain, 8)
            for _ in range(10):
                found.append(self.compare_observation(observer, plain, self.drawn_observation(chance, plain, ring)))
                self.compare_states(chance, observer, plain, chance.choice([0, 1, 3, 12]))
            other = DaysObserver.from_log(ring, reader, plain.log)
            self.compare_states(chance, other, plain, 3)
        for many in [None, 1, 2, 30]:
            self.assertGreater(found.count(many), 50, many)

    def test_telling_numbers_up_to_500(self):
        for days, starts in [((29, 5), (12, 0)), ((26, 28, 29, 30), (3, 0, 2, 1)), ((3, 3, 9), (1, 0, 1))]:
            for reader in range(len(days)):
                observer, plain = DaysObserver(Ring(days, starts), reader), ThirtyRings(days, starts, reader)
                day = plain.rings[29](reader, 0) - 1
                self.assertEqual(observer.see_open(reader, 0, day), plain.see("see_open", reader, 0, day))
                for other in range(len(days)):
                    self.assertEqual(observer.telling_number(other, 500), plain.telling_number(other, 500))

    def test_ends_of_a_play(self):
        for days, starts in random_rings(14, 44, 12):
            for reader in range(len(days)):
                observer = DaysObserver(Ring(days, starts), reader)
                plays = [Play(days[:reader] + (needed,) + days[reader + 1:], starts) for needed in (1, 5, 12)]
                for number in [0, 3, 10 ** 9]:
                    for other in range(len(days)):
                        ends = {play.end(other, number) for play in plays}
                        self.assertLessEqual(ends, set(observer.possible_ends(other, number)))


if __name__ == "__main__":
    unittest.main()
