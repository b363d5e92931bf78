"""Points 2 to 16 over the whole program: what one part tells agrees with what the others tell."""

import random
import unittest
from fractions import Fraction

from readingring.chains import chain_of_waits, judge_chain, judge_pace, pace_readers
from readingring.codec import decode_ring, encode_ring, pack_bytes, unpack_bytes
from readingring.diaries import DaysObserver, diary_of, mended
from readingring.errors import Contradiction, DecodeError, InvalidRing
from readingring.live import LiveRing
from readingring.notation import chart, format_ring, parse_ring
from readingring.planning import (
    fewest_books, fewest_days_less, first_unlike, helpful_readers, pace_with, slowest_days,
)
from readingring.rings import Ring
from readingring.schedule import (
    begin_day, book_of, first_meeting, heap_on, longest_heap, readings_by, settled,
)
from tests.diary_play import torn
from tests.plain_forms import ring_fault
from tests.play import SPECIAL_RINGS, random_rings

LATEST = 10 ** 18


def some_rings(seed):
    """Special rings, slow ones and quick ones."""
    every = SPECIAL_RINGS + random_rings(35, seed) + random_rings(35, seed + 1000, 4)
    return [Ring(days, starts) for days, starts in every]


def quick_rings(seed):
    return [Ring(days, starts) for days, starts in random_rings(42, seed, 4)]


def stored(ring):
    """The ring, written as a text and as bytes, and read again."""
    return decode_ring(encode_ring(parse_ring(format_ring(ring))))


def readers_of(ring):
    return range(len(ring))


def days_by_days(ring, last):
    """Yield a live ring on each day up to the last one."""
    live = LiveRing(ring)
    for day in range(last + 1):
        if day > 0:
            live.pass_days(1)
        yield live


def day_by_which_all_repeats(ring):
    """A day by which the places of all books have been seen."""
    number, readings, _ = settled(ring)
    return max(ring(reader, number + 2 * readings * ring.books) for reader in readers_of(ring))


def played_entries(ring, days):
    """The readings that end in so many days of a live ring."""
    live = LiveRing(ring)
    entries = []
    while days > 0:
        entries += live.pass_days(min(days, 400))
        days -= 400
    return entries


class Point2Test(unittest.TestCase):
    """Rings are valid or not, wherever they come from."""

    def drawn(self, chance):
        readers = chance.choice([1, 2, 2, 3, 3, 4, 8, 9])
        days = tuple(chance.choice([1, 2, 5, 30, 30, chance.choice([0, 31, 99])]) for _ in range(readers))
        starts = tuple(chance.choice([0, 0, 0, 1, 2, chance.choice([7, 12, 13])]) for _ in range(readers))
        return (days, starts)

    def fault_of(self, make, *arguments):
        try:
            make(*arguments)
        except InvalidRing as error:
            return (error.part, error.index)
        return None

    def test_rings_and_texts(self):
        chance = random.Random(51)
        faults = []
        for _ in range(1500):
            days, starts = self.drawn(chance)
            text = "\n".join(f"reader {needed} {many}" for needed, many in zip(days, starts))
            faults.append(ring_fault(days, starts))
            self.assertEqual(self.fault_of(Ring, days, starts), faults[-1], (days, starts))
            self.assertEqual(self.fault_of(parse_ring, text), faults[-1], text)
        self.assertGreater(faults.count(None), 300)
        self.assertGreater(faults.count(("starts", -1)), 50)

    def test_rings_and_bytes(self):
        chance = random.Random(52)
        for _ in range(700):
            days, starts = self.drawn(chance)
            values = [82, len(days), *[number for pair in zip(days, starts) for number in pair]]
            if ring_fault(days, starts) is None:
                ring = Ring(days, starts)
                self.assertEqual(decode_ring(encode_ring(ring)), ring)
                self.assertEqual(unpack_bytes(encode_ring(ring))[:-1], values)
            else:
                for checksum in range(256):
                    with self.assertRaises(DecodeError):
                        decode_ring(pack_bytes([*values, checksum]))

    def test_single(self):
        for days, _ in random_rings(35, 53):
            text = "\n".join(f"reader {needed} 1" for needed in days)
            self.assertEqual(Ring.single(*days), parse_ring(text))
            for wrong in [days[:-1] + (31,), days[:1], days + (1,) * 8]:
                text = "\n".join(f"reader {needed} 1" for needed in wrong)
                self.assertEqual(self.fault_of(Ring.single, *wrong), self.fault_of(parse_ring, text))


class Point3Test(unittest.TestCase):
    """Signs of rings, texts, bytes and charts."""

    def test_len_and_items(self):
        for ring in some_rings(54):
            rows = [row.split(" ") for row in format_ring(ring).split("\n")]
            values = unpack_bytes(encode_ring(ring))
            self.assertEqual((len(ring), values[1]), (len(rows), len(rows)))
            self.assertEqual(len(chart(ring, 1).split("\n")), len(ring))
            for reader in readers_of(ring):
                self.assertEqual(ring[reader], (int(rows[reader][1]), int(rows[reader][2])))
                self.assertEqual(list(ring[reader]), values[2 + 2 * reader:4 + 2 * reader])

    def test_turned_rings(self):
        for ring in some_rings(55)[::3]:
            for steps in readers_of(ring):
                turned = ring >> steps
                rows, row_values = format_ring(ring).split("\n"), unpack_bytes(encode_ring(ring))[2:-1]
                self.assertEqual(format_ring(turned).split("\n"), rows[steps:] + rows[:steps])
                self.assertEqual(unpack_bytes(encode_ring(turned))[2:-1],
                                 row_values[2 * steps:] + row_values[:2 * steps])
                marks = [row[1:] for row in chart(ring, 40).split("\n")]
                self.assertEqual([row[1:] for row in chart(turned, 40).split("\n")], marks[steps:] + marks[:steps])
                ends = [(day, (reader + steps) % len(ring)) for day, reader, _ in played_entries(turned, 90)]
                self.assertEqual(sorted(ends), [entry[:2] for entry in played_entries(ring, 90)])

    def test_equal_rings(self):
        rings = some_rings(56) + [ring.with_days(0, 3) for ring in some_rings(56)]
        for one in rings:
            for other in rings:
                self.assertEqual(one == other, format_ring(one) == format_ring(other))
                self.assertEqual(one == other, encode_ring(one) == encode_ring(other))

    def test_with_days(self):
        for ring in some_rings(57):
            for reader in readers_of(ring):
                rows = format_ring(ring).split("\n")
                rows[reader] = f"reader 17 {ring.starts[reader]}"
                self.assertEqual(ring.with_days(reader, 17), parse_ring("\n".join(rows)))


class Point4Test(unittest.TestCase):
    """Ends, begins and books of readings; diaries and live rings."""

    def test_diaries(self):
        for ring in some_rings(58):
            numbers = [0] * len(ring)
            entries = list(diary_of(ring, 300))
            self.assertEqual(entries, sorted(entries))
            for day, reader, book in entries:
                number = numbers[reader]
                numbers[reader] += 1
                self.assertEqual((ring(reader, number), book_of(ring, reader, number)), (day, book))
                self.assertEqual(begin_day(ring, reader, number), day - ring[reader][0])
            # All readings that are not in the diary end later, or on the last day by later readers.
            for reader in readers_of(ring):
                self.assertGreater((ring(reader, numbers[reader]), reader), entries[-1][:2])

    def test_live_rings(self):
        for ring in some_rings(59):
            entries = played_entries(ring, 1000)[:500]
            self.assertEqual(list(diary_of(ring, len(entries))), entries)
            self.assertEqual(list(diary_of(stored(ring), len(entries))), entries)

    def test_readings_that_have_begun(self):
        for ring in some_rings(60)[:40]:
            for live in days_by_days(ring, 40):
                for reader, reading in enumerate(live.being_read):
                    number = readings_by(ring, reader, live.today)
                    begins = begin_day(ring, reader, number)
                    expected = (book_of(ring, reader, number), ring(reader, number)) if begins <= live.today else None
                    self.assertEqual(reading, expected)


class Point5Test(unittest.TestCase):
    """Readings by a day, heaps and meetings; diaries, charts and live rings."""

    def test_readings_by(self):
        for ring in some_rings(61):
            entries = list(diary_of(ring, 200))
            for day in [0, 1, 2, 10, 31, entries[-1][0] - 1]:
                for reader in readers_of(ring):
                    ended = len([entry for entry in entries if entry[0] <= day and entry[1] == reader])
                    self.assertEqual(readings_by(ring, reader, day), ended)

    def test_heaps(self):
        for ring in some_rings(62)[:60]:
            for live in days_by_days(ring, 50):
                heaps = [len(books) for books in live.waiting_books]
                self.assertEqual([heap_on(ring, reader, live.today) for reader in readers_of(ring)], heaps)
                if live.today % 7 == 0:
                    shown = [int(row[-2:]) for row in chart(ring, live.today + 1).split("\n")]
                    self.assertEqual(shown, heaps)

    def test_longest_heaps_and_first_meetings(self):
        for ring in quick_rings(63):
            longest = [0] * len(ring)
            meetings = {}
            for live in days_by_days(ring, day_by_which_all_repeats(ring)):
                longest = [max(long, len(books)) for long, books in zip(longest, live.waiting_books)]
                for one in range(ring.books):
                    for other in range(one):
                        if live(one) == live(other):
                            meetings.setdefault((one, other), (live.today, live(one)))
            self.assertEqual([longest_heap(ring, reader) for reader in readers_of(ring)], longest)
            for one in range(ring.books):
                for other in range(one):
                    self.assertEqual(first_meeting(ring, one, other), meetings.get((one, other)))


class Point6Test(unittest.TestCase):
    """The pace and the settled ring; diaries, charts, late days."""

    def test_pace_is_that_of_late_days(self):
        for ring in some_rings(64):
            days, readings = ring.pace
            for reader in readers_of(ring):
                ended = readings_by(ring, reader, LATEST)
                self.assertLess(abs(ended * days - LATEST * readings), 10 ** 6)
                self.assertLess(abs(ring(reader, LATEST) * readings - LATEST * days), 10 ** 6)

    def test_pace_and_settled(self):
        for ring in some_rings(65):
            _, readings, days = settled(ring)
            self.assertEqual(Fraction(days, readings), Fraction(*ring.pace))
            self.assertEqual(settled(stored(ring)), settled(ring))
            self.assertEqual(stored(ring).pace, ring.pace)

    def test_diaries_repeat(self):
        for ring in some_rings(66):
            number, readings, days = settled(ring)
            entries = list(diary_of(ring, 500))
            for reader in readers_of(ring):
                ends = [entry[0] for entry in entries if entry[1] == reader]
                for early, late in list(zip(ends, ends[readings:]))[number:]:
                    self.assertEqual(late - early, days)

    def test_charts_repeat(self):
        found = 0
        for ring in quick_rings(67):
            number, _, days = settled(ring)
            first = max(ring(reader, number) for reader in readers_of(ring))
            if first + days <= 100:
                found += 1
                for row in chart(ring, 100).split("\n"):
                    self.assertEqual(row[2 + first:102 - days], row[2 + first + days:102])
        self.assertGreater(found, 20)


class Point7Test(unittest.TestCase):
    """The readers that set the pace, the pace, and late readings."""

    def test_pace(self):
        for ring in some_rings(68):
            self.assertEqual(judge_pace(ring, pace_readers(ring)), ring.pace)
            self.assertEqual(pace_readers(stored(ring)), pace_readers(ring))

    def test_no_reader_shows_more_than_the_pace(self):
        for ring in some_rings(69):
            for reader in readers_of(ring):
                around = [(reader + step) % len(ring) for step in readers_of(ring)]
                for readers in [[reader], around]:
                    self.assertLessEqual(Fraction(*judge_pace(ring, readers)), Fraction(*ring.pace))
                    days, readings = judge_pace(ring, readers)
                    # Books at first let readings end earlier than that, but not by more and more days.
                    self.assertGreater(ring(reader, 10 ** 9) * readings, 10 ** 9 * days - 10 ** 5)

    def test_readers_who_set_the_pace_are_not_slower_for_nothing(self):
        for ring in some_rings(70):
            for reader in pace_readers(ring):
                self.assertEqual(slowest_days(ring, reader), ring.days[reader])


class Point8Test(unittest.TestCase):
    """Chains of waits, ends, and diaries."""

    def test_chains_of_readings_in_a_diary(self):
        for ring in some_rings(71):
            entries = list(diary_of(ring, 200))
            ends = {}
            for day, reader, _ in entries:
                number = len([1 for other, _ in ends if other == reader])
                ends[(reader, number)] = day
            for reader, number in list(ends)[::9]:
                chain = chain_of_waits(ring, reader, number)
                self.assertEqual(chain[-1], (reader, number))
                day = 0
                for one in chain:
                    self.assertEqual(begin_day(ring, *one), day)
                    day = ends[one]
                self.assertEqual(judge_chain(ring, chain), ring(reader, number))

    def test_chains_tell_when_readings_cannot_have_ended(self):
        for ring in some_rings(72):
            chain = chain_of_waits(ring, 1, 60)
            day = judge_chain(ring, chain)
            self.assertEqual([readings_by(ring, 1, day - 1), readings_by(ring, 1, day)], [60, 61])
            self.assertEqual(chain_of_waits(stored(ring), 1, 60), chain)
            for first in range(0, len(chain), 7):
                self.assertLessEqual(judge_chain(ring, chain[first:]), day)


class Point9Test(unittest.TestCase):
    """More books and quicker readers; paces of rings and of live rings."""

    def test_books_that_are_added_to_a_live_ring(self):
        chance = random.Random(73)
        for ring in quick_rings(74):
            live = LiveRing(ring)
            for books in range(ring.books + 1, 13, 3):
                while len(live) < books:
                    live.add(chance.choice(readers_of(ring)))
                for _ in range(5):
                    live.pass_days(400)
                _, readings, days = settled(Ring(ring.days, (books,) + (0,) * (len(ring) - 1)))
                entries = live.pass_days(days)
                for reader in readers_of(ring):
                    self.assertEqual(len([entry for entry in entries if entry[1] == reader]), readings)
                self.assertEqual(Fraction(*pace_with(ring, books)), Fraction(days, readings))

    def test_paces_with_books(self):
        for ring in some_rings(75):
            self.assertEqual(pace_with(ring, ring.books), ring.pace)
            for books in range(1, 13):
                other = Ring(ring.days, (0,) * (len(ring) - 1) + (books,))
                self.assertEqual(pace_with(ring, books), other.pace)
            fewest = fewest_books(ring)
            self.assertEqual(pace_with(ring, fewest), (max(ring.days), 1))
            if fewest > 1:
                self.assertGreater(Fraction(*pace_with(ring, fewest - 1)), max(ring.days))

    def test_quicker_and_slower_readers(self):
        for ring in some_rings(76):
            pace = Fraction(*ring.pace)
            for reader in readers_of(ring):
                quicker = ring.with_days(reader, max(1, ring.days[reader] - 1))
                self.assertEqual(reader in helpful_readers(ring), Fraction(*quicker.pace) < pace)
                if reader in helpful_readers(ring):
                    self.assertEqual(fewest_days_less(ring, *quicker.pace), 1)
                    self.assertIsNotNone(first_unlike(ring, quicker))
                    self.assertLess(quicker(0, LATEST), ring(0, LATEST) - 10 ** 9)
                slowest = slowest_days(ring, reader)
                self.assertEqual(ring.with_days(reader, slowest).pace, ring.pace)
                if slowest < 30:
                    slower = ring.with_days(reader, slowest + 1)
                    self.assertGreater(slower(0, LATEST), ring(0, LATEST) + 10 ** 9)
            self.assertEqual(fewest_days_less(ring, *ring.pace), 0)


class Point10Test(unittest.TestCase):
    """Rings that part; ends, diaries and observers."""

    def first_in_diaries(self, one, other):
        """The first reading that ends on different days, by numbers, of readings in the diaries of both."""
        all_ends = []
        for ring in (one, other):
            ends = {}
            numbers = [0] * len(ring)
            for day, reader, _ in diary_of(ring, 500):
                ends[(numbers[reader], reader)] = day
                numbers[reader] += 1
            all_ends.append(ends)
        both = [key for key in all_ends[0] if key in all_ends[1]]
        return min([key for key in both if all_ends[0][key] != all_ends[1][key]], default=None)

    def test_diaries(self):
        chance = random.Random(77)
        found = []
        for ring in some_rings(78):
            reader = chance.choice(readers_of(ring))
            for other in [stored(ring), ring.with_days(reader, chance.randint(1, 30)), ring.with_days(reader, 1)]:
                found.append(first_unlike(ring, other))
                self.assertEqual(found[-1], self.first_in_diaries(ring, other))
        self.assertGreater(found.count(None), 80)
        self.assertGreater(len(found) - found.count(None), 80)

    def test_observers(self):
        for ring in some_rings(79):
            other = ring.with_days(0, 30) if ring.days[0] < 30 else ring.with_days(0, 29)
            number, reader = first_unlike(ring, other)
            day = ring(reader, number)
            observer = DaysObserver(other, 0)
            observer.see_end(reader, number, day)
            self.assertIn(ring.days[0], observer.possible_days)
            self.assertNotIn(other.days[0], observer.possible_days)


class Point11Test(unittest.TestCase):
    """Live rings; heaps, charts, meetings and changed rings."""

    def test_charts(self):
        for ring in some_rings(80)[:60]:
            rows = [f"{reader} " for reader in readers_of(ring)]
            for live in days_by_days(ring, 99):
                for reader, reading in enumerate(live.being_read):
                    rows[reader] += "#" if reading else "."
                if live.today in (0, 9, 30, 99):
                    heaps = [str(len(books)).rjust(2) for books in live.waiting_books]
                    lines = [f"{row} {heap}" for row, heap in zip(rows, heaps)]
                    self.assertEqual(chart(ring, live.today + 1), "\n".join(lines))

    def test_books_are_where_readings_tell(self):
        for ring in quick_rings(81):
            for live in days_by_days(ring, 30):
                self.assertEqual(len(live), ring.books)
                places = {}
                for reader in readers_of(ring):
                    came = ring.starts[reader] + readings_by(ring, reader - 1 if reader else len(ring) - 1, live.today)
                    for number in range(readings_by(ring, reader, live.today), came):
                        places[book_of(ring, reader, number)] = reader
                self.assertEqual({book: live(book) for book in range(ring.books)}, places)

    def test_days_that_are_set_before_a_reader_begins(self):
        found = 0
        for ring in some_rings(82):
            for reader in readers_of(ring):
                if ring.starts[reader] == 0:
                    found += 1
                    live = LiveRing(ring)
                    self.assertEqual(live.set_days(reader, 7), ring[reader][0])
                    entries = live.pass_days(200)
                    self.assertEqual(entries, list(diary_of(ring.with_days(reader, 7), 500))[:len(entries)])
        self.assertGreater(found, 40)

    def test_books_that_are_added_on_day_0(self):
        for ring in some_rings(83):
            starts = ring.starts[:-1] + (ring.starts[-1] + 1,)
            if sum(starts) <= 12:
                live = LiveRing(ring)
                self.assertEqual(live.add(len(ring) - 1), ring.books)
                entries = live.pass_days(150)
                self.assertEqual(entries, list(diary_of(Ring(ring.days, starts), 500))[:len(entries)])

    def test_books_that_are_taken_on_day_0(self):
        for ring in some_rings(84):
            last = max(reader for reader in readers_of(ring) if ring.starts[reader] > 0)
            if ring.starts[last] > 1:
                live = LiveRing(ring)
                self.assertEqual(live.take(ring.books - 1), last)
                starts = ring.starts[:last] + (ring.starts[last] - 1,) + ring.starts[last + 1:]
                entries = live.pass_days(150)
                self.assertEqual(entries, list(diary_of(Ring(ring.days, starts), 500))[:len(entries)])


class Point12Test(unittest.TestCase):
    """Histories and blocks; diaries, heaps and stored rings."""

    def test_undone_changes_leave_the_diary_as_it_is(self):
        for ring in some_rings(85):
            live = LiveRing(ring)
            entries = live.pass_days(20)
            with live:
                live.apply(("set_days", 0, 9), ("pass_days", 31))
            live.set_days(1, 30)
            live.pass_days(50)
            self.assertEqual([live.undo(), live.undo()], [True, True])
            live.waiting_after(("set_days", 1, 30), ("pass_days", 50))
            entries += live.pass_days(30)
            self.assertEqual(entries, list(diary_of(ring, 500))[:len(entries)])
            self.assertEqual([live.undo(), live.redo()], [True, True])
            heaps = [heap_on(ring, reader, 50) for reader in readers_of(ring)]
            self.assertEqual([len(books) for books in live.waiting_books], heaps)

    def test_waiting_after_days(self):
        for ring in some_rings(86):
            for days in [0, 1, 17, 100, 400]:
                waiting = LiveRing(ring).waiting_after(("pass_days", days))
                self.assertEqual([len(books) for books in waiting],
                                 [heap_on(ring, reader, days) for reader in readers_of(ring)])

    def test_replay_with_a_stored_ring(self):
        for ring in some_rings(87):
            live = LiveRing(ring)
            live.apply(("pass_days", 12), ("set_days", 0, 2), ("pass_days", 45))
            other = LiveRing.replay(stored(ring), live.history)
            self.assertEqual((other.today, other.waiting_books, other.being_read, other.history),
                             (live.today, live.waiting_books, live.being_read, live.history))


class Point13Test(unittest.TestCase):
    """Diaries, mended ones too; live rings and stored rings."""

    def test_torn_pages_of_live_rings(self):
        chance = random.Random(88)
        for ring in some_rings(89):
            entries = played_entries(ring, 300)[:500]
            for share in [0, 0.5, 1]:
                self.assertEqual(mended(ring, torn(chance, entries, share)), entries)
                self.assertEqual(mended(stored(ring), torn(chance, entries, share)), entries)

    def test_books_come_round(self):
        for ring in some_rings(90):
            readers = {book: [] for book in range(ring.books)}
            for _, reader, book in diary_of(ring, 400):
                readers[book].append(reader)
            for book, way in readers.items():
                self.assertEqual(way, [(way[0] + step) % len(ring) for step in range(len(way))], book)


class Point14Test(unittest.TestCase):
    """Observers of rings that are known: ends, diaries and readings by a day."""

    def test_a_diary_contradicts_nothing(self):
        for ring in some_rings(91)[::2]:
            reader = len(ring) - 1
            observer = DaysObserver(ring.with_days(reader, 30), reader)
            numbers = [0] * len(ring)
            for day, other, _ in diary_of(ring, 60):
                observer.see_open(other, numbers[other], day - 1)
                observer.see_end(other, numbers[other], day)
                numbers[other] += 1
            self.assertIn(ring.days[reader], observer.possible_days)
            self.assertEqual(len(observer.observations), 120)
            for days in observer.possible_days:
                self.assertEqual(list(diary_of(ring.with_days(reader, days), 60)), list(diary_of(ring, 60)))

    def test_the_telling_number_tells(self):
        for ring in some_rings(92)[::2]:
            for reader in readers_of(ring):
                observer = DaysObserver(ring.with_days(reader, 1), reader)
                number = observer.telling_number(reader, 500)
                self.assertEqual(number, 0)
                self.assertEqual(observer.see_end(reader, number, ring(reader, number)), 1)
                self.assertEqual(observer.possible_days, [ring.days[reader]])
                for other in readers_of(ring):
                    for late in [0, 77, LATEST]:
                        self.assertEqual(observer.possible_ends(other, late), [ring(other, late)])
                with self.assertRaises(Contradiction):
                    observer.see_open(reader, 3, ring(reader, 3))

    def test_readings_by_a_day_are_not_open(self):
        for ring in some_rings(93)[::2]:
            for day in [5, 40, 1000]:
                observer = DaysObserver(ring, 0)
                for reader in readers_of(ring):
                    number = readings_by(ring, reader, day)
                    observer.see_open(reader, number, day)
                    if number > 0:
                        observer.see_end(reader, number - 1, ring(reader, number - 1))
                self.assertIn(ring.days[0], observer.possible_days)
                for days in observer.possible_days:
                    other = ring.with_days(0, days)
                    self.assertEqual([readings_by(other, reader, day) for reader in readers_of(ring)],
                                     [readings_by(ring, reader, day) for reader in readers_of(ring)])


class Point15Test(unittest.TestCase):
    """Texts and charts; bytes, diaries and heaps."""

    def test_texts_and_bytes(self):
        for ring in some_rings(94):
            self.assertEqual(stored(ring), ring)
            self.assertEqual(format_ring(stored(ring)), format_ring(ring))
            self.assertEqual(encode_ring(stored(ring)), encode_ring(ring))

    def test_charts_and_diaries(self):
        for ring in some_rings(95)[::2]:
            rows = [["."] * 100 for _ in readers_of(ring)]
            for day, reader, _ in played_entries(ring, 131):
                for reading_day in range(day - ring[reader][0], min(day, 100)):
                    rows[reader][reading_day] = "#"
            lines = [f"{reader} {''.join(rows[reader])} {heap_on(ring, reader, 99):>2}" for reader in readers_of(ring)]
            self.assertEqual(chart(ring, 100), "\n".join(lines))
            self.assertEqual(chart(stored(ring), 100), chart(ring, 100))


class Point16Test(unittest.TestCase):
    """Bytes; everything that stored rings tell."""

    def test_stored_rings_tell_the_same(self):
        for ring in some_rings(96):
            other = decode_ring(pack_bytes(unpack_bytes(encode_ring(ring))))
            self.assertEqual(other, ring)
            self.assertIsNone(first_unlike(other, ring))
            self.assertEqual((other.pace, other.books, settled(other)), (ring.pace, ring.books, settled(ring)))
            for reader in readers_of(ring):
                for number in [0, 9, LATEST]:
                    self.assertEqual(other(reader, number), ring(reader, number))
            self.assertEqual(list(diary_of(other, 40)), list(diary_of(ring, 40)))


if __name__ == "__main__":
    unittest.main()
