"""Points 7 and 8: chains of waits and the readers that set the pace; examples, limits and wrong inputs."""

import itertools
import unittest
from fractions import Fraction

from readingring.chains import chain_of_waits, judge_chain, judge_pace, pace_readers
from readingring.errors import InvalidChain, InvalidNumber, UnknownReader
from readingring.rings import Ring
from tests.play import Play, SPECIAL_RINGS, all_small_rings, random_rings
from tests.refusals import NO_LISTS, NO_NUMBERS, refuse

NO_READINGS = [
    None, True, 0, 1, "", "00", [], [0, 0], (), (0,), (0, 0, 0), ((0, 0),), (-1, 0), (3, 0), (8, 0), (0, -1),
    (0, 501), (0, 10 ** 5000), *[(value, 0) for value in NO_NUMBERS], *[(0, value) for value in NO_NUMBERS],
]


class ChainCase(unittest.TestCase):
    def setUp(self):
        self.ring = Ring((2, 3, 1), (1, 1, 0))

    def assert_invalid(self, judge, ring, value, index):
        self.assertEqual(refuse(self, InvalidChain, judge, ring, value).index, index, value)


class ExamplesTest(ChainCase):
    """The examples of the interface."""

    def test_chains(self):
        self.assertEqual([chain_of_waits(self.ring, 0, 1), judge_chain(self.ring, [(1, 0), (1, 1)])],
                         [[(1, 0), (2, 0), (0, 1)], 6])
        self.assert_invalid(judge_chain, self.ring, [(1, 0), (0, 0)], 1)

    def test_paces(self):
        ring = self.ring
        self.assertEqual([pace_readers(ring), judge_pace(ring, [1]), judge_pace(ring, [1, 2, 0])],
                         [[1], (3, 1), (3, 1)])
        self.assert_invalid(judge_pace, ring, [1, 0], 1)


class ChainOfWaitsTest(ChainCase):
    def test_reading_that_begins_on_day_0(self):
        for reader in [0, 1]:
            self.assertEqual(chain_of_waits(self.ring, reader, 0), [(reader, 0)])

    def test_same_reader_if_both_end_on_the_day(self):
        self.assertEqual(chain_of_waits(Ring.single(2, 2), 1, 3), [(1, 0), (1, 1), (1, 2), (1, 3)])

    def test_same_book(self):
        ring = Ring((5, 1, 1), (1, 0, 0))
        self.assertEqual(chain_of_waits(ring, 1, 1), [(0, 0), (1, 0), (2, 0), (0, 1), (1, 1)])

    def test_many_books_at_first(self):
        ring = Ring((2, 9), (12, 0))
        self.assertEqual(chain_of_waits(ring, 0, 11), [(0, number) for number in range(12)])
        self.assertEqual(chain_of_waits(ring, 1, 3), [(0, 0), (1, 0), (1, 1), (1, 2), (1, 3)])

    def test_numbers_0_and_500(self):
        self.assertEqual(chain_of_waits(self.ring, 2, 0), [(1, 0), (2, 0)])
        self.assertEqual(chain_of_waits(Ring.single(2, 2), 0, 500), [(0, number) for number in range(501)])
        chain = chain_of_waits(Ring((1,) * 8, (0, 0, 0, 0, 0, 0, 0, 1)), 6, 500)
        self.assertEqual((len(chain), chain[0], chain[-1]), (8 * 501, (7, 0), (6, 500)))

    def test_invalid_number(self):
        for number in [-1, 501, 10 ** 18, 10 ** 5000, *NO_NUMBERS]:
            for reader in range(3):
                refuse(self, InvalidNumber, chain_of_waits, self.ring, reader, number)

    def test_unknown_reader_comes_first(self):
        for reader in [-1, 3, 8, 10 ** 18, *NO_NUMBERS]:
            for number in [0, 501, None, True]:
                refuse(self, UnknownReader, chain_of_waits, self.ring, reader, number)

    def test_new_list_for_each_call(self):
        chain = chain_of_waits(self.ring, 0, 1)
        chain.clear()
        self.assertEqual(chain_of_waits(self.ring, 0, 1), [(1, 0), (2, 0), (0, 1)])

    def test_kinds_and_names(self):
        chain = chain_of_waits(ring=self.ring, reader=0, number=1)
        self.assertIs(chain.__class__, list)
        self.assertEqual({reading.__class__ for reading in chain}, {tuple})


class JudgeChainTest(ChainCase):
    def test_empty_list(self):
        self.assertEqual(judge_chain(self.ring, []), 0)

    def test_one_reading(self):
        for reading, days in [((0, 0), 2), ((1, 0), 3), ((2, 0), 1), ((2, 500), 1), ((0, 500), 2)]:
            self.assertEqual(judge_chain(self.ring, [reading]), days)

    def test_chain_that_begins_late(self):
        self.assertEqual(judge_chain(self.ring, [(0, 498), (0, 499), (1, 500)]), 7)

    def test_readings_that_end_at_other_times(self):
        # The reading (0, 1) begins three days after (0, 0) has ended.
        ring = Ring((2, 3, 1), (1, 0, 0))
        self.assertEqual(judge_chain(ring, [(0, 0), (0, 1)]), 4)
        self.assertEqual(judge_chain(ring, [(0, 0), (1, 0), (2, 0), (0, 1)]), 8)

    def test_numbers_0_and_500(self):
        self.assertEqual(judge_chain(self.ring, [(1, number) for number in range(501)]), 1503)
        self.assert_invalid(judge_chain, self.ring, [(1, number) for number in range(502)], 501)
        self.assert_invalid(judge_chain, self.ring, [(0, 500), (0, 501)], 1)
        self.assert_invalid(judge_chain, self.ring, [(0, 500), (1, 501)], 1)
        self.assert_invalid(judge_chain, self.ring, [(0, -1), (0, 0)], 0)
        self.assert_invalid(judge_chain, self.ring, [(2, -1), (0, 0)], 0)

    def test_items_that_are_no_readings(self):
        for value in NO_READINGS:
            self.assert_invalid(judge_chain, self.ring, [value], 0)
            self.assert_invalid(judge_chain, self.ring, [value, (0, 0)], 0)
            self.assert_invalid(judge_chain, self.ring, [(1, 0), (2, 0), (0, 1), value], 3)
            self.assert_invalid(judge_chain, self.ring, [(1, 0), value, None], 1)

    def test_true_is_no_reader_and_no_number(self):
        ring = Ring((2, 3), (1, 1))
        self.assertEqual(judge_chain(ring, [(0, 0), (0, 1)]), 4)
        self.assert_invalid(judge_chain, ring, [(0, 0), (0, True)], 1)
        self.assert_invalid(judge_chain, ring, [(0, False), (0, 1)], 0)
        self.assertEqual(judge_chain(ring, [(1, 0), (1, 1)]), 6)
        self.assert_invalid(judge_chain, ring, [(1, 0), (True, 1)], 1)

    def test_readings_that_do_not_follow(self):
        for one, other in [
            ((0, 0), (0, 0)), ((0, 0), (0, 2)), ((0, 1), (0, 0)), ((0, 0), (1, 0)), ((0, 0), (1, 2)),
            ((1, 0), (2, 1)), ((2, 0), (0, 0)), ((1, 0), (0, 1)), ((0, 0), (2, 0)), ((0, 5), (2, 4)),
        ]:
            self.assert_invalid(judge_chain, self.ring, [one, other], 1)
        self.assert_invalid(judge_chain, self.ring, [(1, 0), (1, 1), (1, 1), (9, 9)], 2)

    def test_values_that_are_no_lists(self):
        for value in NO_LISTS:
            self.assert_invalid(judge_chain, self.ring, value, 0)

    def test_the_list_stays_as_it_is(self):
        chain = [(1, 0), (2, 0), (0, 1)]
        self.assertEqual([judge_chain(ring=self.ring, chain=chain) for _ in range(2)], [6, 6])
        self.assertEqual(chain, [(1, 0), (2, 0), (0, 1)])
        wrong = [(1, 0), [2, 0]]
        refuse(self, InvalidChain, judge_chain, self.ring, wrong)
        self.assertEqual(wrong, [(1, 0), [2, 0]])


class PaceReadersTest(ChainCase):
    def test_first_one_of_the_slowest(self):
        self.assertEqual(pace_readers(Ring((1, 5, 2, 5), (0, 3, 0, 0))), [1])
        self.assertEqual(pace_readers(Ring.single(4, 4)), [0])
        self.assertEqual(pace_readers(Ring((1, 1, 1, 1, 1, 1, 1, 30), (2,) + (0,) * 7)), [7])

    def test_both_numbers_are_equal(self):
        self.assertEqual(pace_readers(Ring((2, 4, 2), (2, 0, 0))), [1])
        self.assertEqual(pace_readers(Ring((3, 3, 3), (1, 1, 1))), [0])

    def test_all(self):
        self.assertEqual(pace_readers(Ring((3, 3, 3), (1, 1, 0))), [0, 1, 2])
        self.assertEqual(pace_readers(Ring((1, 30), (1, 0))), [0, 1])

    def test_new_list_for_each_call(self):
        for ring in [self.ring, Ring((3, 3, 3), (1, 1, 0))]:
            readers = pace_readers(ring=ring)
            expected = list(readers)
            self.assertIs(readers.__class__, list)
            readers.append(7)
            self.assertEqual(pace_readers(ring), expected)


class JudgePaceTest(ChainCase):
    def test_one_reader(self):
        self.assertEqual([judge_pace(self.ring, [reader]) for reader in range(3)], [(2, 1), (3, 1), (1, 1)])

    def test_all_readers_from_any_of_them_on(self):
        ring = Ring((4, 4, 1, 3), (2, 0, 4, 0))
        for readers in [[0, 1, 2, 3], [1, 2, 3, 0], [2, 3, 0, 1], [3, 0, 1, 2]]:
            self.assertEqual(judge_pace(ring=ring, readers=readers), (2, 1))
        for readers in [[0, 1], [1, 0]]:
            self.assertEqual(judge_pace(Ring((3, 7), (9, 3)), readers), (5, 6))

    def test_one_too_many(self):
        self.assert_invalid(judge_pace, self.ring, [1, 2, 0, 1], 3)
        self.assert_invalid(judge_pace, self.ring, [1, 2, 0, None, None], 3)
        self.assert_invalid(judge_pace, Ring((3, 7), (9, 3)), [0, 1, 0], 2)

    def test_too_few(self):
        self.assert_invalid(judge_pace, self.ring, [], 0)
        self.assert_invalid(judge_pace, self.ring, [1, 2], 2)
        self.assert_invalid(judge_pace, Ring.single(1, 1, 1, 1, 1, 1, 1, 1), [6, 7, 0, 1, 2, 3, 4], 7)

    def test_items_that_are_no_readers(self):
        for value in [-1, 3, 8, 10 ** 5000, *NO_NUMBERS]:
            self.assert_invalid(judge_pace, self.ring, [value], 0)
            self.assert_invalid(judge_pace, self.ring, [0, value], 1)
            self.assert_invalid(judge_pace, self.ring, [2, 0, value], 2)
            self.assert_invalid(judge_pace, self.ring, [2, value, value, value, 5], 1)

    def test_readers_that_do_not_follow(self):
        self.assert_invalid(judge_pace, self.ring, [0, 2, 1], 1)
        self.assert_invalid(judge_pace, self.ring, [0, 0], 1)
        self.assert_invalid(judge_pace, self.ring, [0, 1, 1, 2], 2)
        self.assert_invalid(judge_pace, self.ring, [2, 0, 2], 2)

    def test_values_that_are_no_lists(self):
        for value in NO_LISTS:
            self.assert_invalid(judge_pace, self.ring, value, 0)

    def test_the_list_stays_as_it_is(self):
        readers, wrong = [1, 2, 0], [1, [2]]
        self.assertEqual([judge_pace(self.ring, readers) for _ in range(2)], [(3, 1), (3, 1)])
        refuse(self, InvalidChain, judge_pace, self.ring, wrong)
        self.assertEqual((readers, wrong), ([1, 2, 0], [1, [2]]))


class AgainstAllReadingsTest(unittest.TestCase):
    """Chains against the readings of a plain play, tried one by one."""

    def slow_chain(self, play, reader, number):
        chain = [(reader, number)]
        while play.begin(*chain[0]) > 0:
            reader, number = chain[0]
            day, book = play.begin(reader, number), play.book(reader, number)
            before = (reader - 1) % play.readers
            found = [(reader, other) for other in range(number) if play.end(reader, other) == day]
            if not found:
                found = [(before, other) for other in range(number + 1)
                         if play.end(before, other) == day and play.book(before, other) == book]
            self.assertEqual(len(found), 1)
            chain.insert(0, found[0])
        return chain

    def follows(self, play, one, other):
        if one[0] == other[0]:
            return other[1] == one[1] + 1
        if other[0] != (one[0] + 1) % play.readers:
            return False
        later = [number for number in range(one[1] + 13) if play.book(other[0], number) == play.book(*one)
                 and play.begin(other[0], number) >= play.end(*one)]
        return other[1] == later[0]

    def test_chains_of_waits(self):
        for days, starts in SPECIAL_RINGS + random_rings(70, 21) + random_rings(70, 22, 3):
            ring, play = Ring(days, starts), Play(days, starts)
            for reader in range(len(days)):
                for number in [*range(12), 40]:
                    chain = chain_of_waits(ring, reader, number)
                    self.assertEqual(chain, self.slow_chain(play, reader, number), (days, starts))
                    self.assertEqual(judge_chain(ring, chain), play.end(reader, number))

    def test_long_chains_of_waits(self):
        for days, starts in SPECIAL_RINGS + random_rings(28, 23):
            ring, play = Ring(days, starts), Play(days, starts)
            for reader in range(len(days)):
                chain = chain_of_waits(ring, reader, 500)
                self.assertEqual(chain[-1], (reader, 500))
                self.assertEqual([play.begin(*reading) for reading in chain],
                                 [0] + [play.end(*reading) for reading in chain[:-1]])
                self.assertEqual(judge_chain(ring, chain), play.end(reader, 500))

    def test_all_pairs_of_readings(self):
        for days, starts in random_rings(28, 24, 5) + all_small_rings()[::9]:
            ring, play = Ring(days, starts), Play(days, starts)
            readings = [(reader, number) for reader in range(len(days)) for number in range(6)]
            for one, other in itertools.product(readings, repeat=2):
                if self.follows(play, one, other):
                    self.assertEqual(judge_chain(ring, [one, other]), days[one[0]] + days[other[0]])
                else:
                    self.assertEqual(refuse(self, InvalidChain, judge_chain, ring, [one, other]).index, 1)

    def test_the_last_one_cannot_end_before(self):
        for days, starts in random_rings(28, 25, 5):
            ring, play = Ring(days, starts), Play(days, starts)
            for first in [(reader, number) for reader in range(len(days)) for number in range(3)]:
                chain = [first]
                for step in range(10):
                    reader, number = chain[-1]
                    after = (reader + 1) % len(days)
                    chain.append((reader, number + 1) if step % 3 == 1 else (after, number + starts[after]))
                    total = judge_chain(ring, chain)
                    self.assertEqual(total, sum(days[item[0]] for item in chain))
                    self.assertLessEqual(total, play.end(*chain[-1]))


class PaceAgainstPlayTest(unittest.TestCase):
    """Evidence for the pace against the pace of a plain play."""

    def expected(self, ring, readers):
        """The fraction, or the index of InvalidChain, found by comparing with all good lists."""
        many = len(ring)
        whole = [[(first + step) % many for step in range(many)] for first in range(many)]
        for index in range(len(readers)):
            if all(good[:index + 1] != readers[:index + 1] for good in whole):
                return ("index", index)
        if len(readers) == 1:
            return ("pace", Fraction(ring.days[readers[0]]))
        if readers in whole:
            return ("pace", Fraction(sum(ring.days), ring.books))
        return ("index", len(readers))

    def found(self, ring, readers):
        try:
            days, readings = judge_pace(ring, readers)
        except InvalidChain as error:
            return ("index", error.index)
        pace = Fraction(days, readings)
        self.assertEqual((pace.numerator, pace.denominator), (days, readings))
        return ("pace", pace)

    def test_all_short_lists(self):
        for days, starts in [((2, 5), (1, 2)), ((4, 6), (2, 2)), ((2, 3, 1), (1, 1, 0)), ((5, 5, 5), (0, 0, 2))]:
            ring = Ring(days, starts)
            for length in range(len(days) + 3):
                for readers in itertools.product(range(-1, len(days) + 1), repeat=length):
                    self.assertEqual(self.found(ring, list(readers)), self.expected(ring, list(readers)), readers)

    def test_pace_readers(self):
        for days, starts in SPECIAL_RINGS + all_small_rings() + random_rings(140, 26) + random_rings(140, 27, 3):
            ring, play = Ring(days, starts), Play(days, starts)
            pace = Fraction(play.round_days, play.round_readings)
            readers = pace_readers(ring)
            self.assertEqual(self.found(ring, readers), ("pace", pace), (days, starts))
            single = [reader for reader in range(len(days)) if days[reader] == pace]
            self.assertEqual(readers, single[:1] or list(range(len(days))), (days, starts))

    def test_no_evidence_shows_more_than_the_pace(self):
        for days, starts in random_rings(70, 28):
            ring = Ring(days, starts)
            lists = [[reader] for reader in range(len(days))]
            lists += [[*range(first, len(days)), *range(first)] for first in range(len(days))]
            self.assertEqual(max(self.found(ring, readers) for readers in lists), ("pace", Fraction(*ring.pace)))


if __name__ == "__main__":
    unittest.main()
