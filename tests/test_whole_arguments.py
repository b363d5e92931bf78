"""Point 1 over the whole program: numbers, order of checks, arguments, returned lists, calls that raise."""

import copy
import unittest

from readingring.chains import chain_of_waits, judge_chain, judge_pace, pace_readers
from readingring.codec import decode_ring, encode_ring, pack_bytes, unpack_bytes
from readingring.diaries import DaysObserver, diary_of, mended
from readingring.errors import (
    AlreadyOpen, BeingRead, Contradiction, DecodeError, DiaryError, InvalidChain, InvalidCount, InvalidNumber,
    InvalidOperation, InvalidRing, NotationError, OtherRing, ReadingError, SameBook, UnknownBook, UnknownReader,
)
from readingring.live import LiveRing
from readingring.notation import chart, format_ring, parse_ring
from readingring.planning import (
    fewest_books, fewest_days_less, first_unlike, helpful_readers, pace_with, slowest_days,
)
from readingring.rings import Ring
from readingring.schedule import (
    begin_day, book_of, first_meeting, heap_on, longest_heap, readings_by, settled,
)
from tests.refusals import NO_NUMBERS, refuse

RING = Ring((2, 3, 1), (1, 1, 1))


def live_ring():
    """A live ring in the middle of all that can be undone and redone; book 3 waits at reader 1."""
    live = LiveRing(RING)
    live.apply(("add", 1), ("pass_days", 1), ("set_days", 2, 2), ("pass_days", 3), ("add", 0))
    live.undo()
    live.undo()
    return live


def observer():
    return DaysObserver.from_log(RING, 1, [("see_open", 1, 0, 2), ("see_end", 0, 0, 2)])


def entries(count):
    return list(diary_of(RING, count))


# The error for a value in place of a number, and a call with this value. One of the numbers 0 and 1 is valid there,
# so that False or True must be told from it.
PLACES_OF_NUMBERS = [
    (InvalidRing, lambda value: Ring((value, 2), (1, 1))),
    (InvalidRing, lambda value: Ring((2, 2), (1, value))),
    (InvalidRing, lambda value: Ring.single(2, value)),
    (UnknownReader, lambda value: RING[value]),
    (UnknownReader, lambda value: RING(value, 0)),
    (InvalidNumber, lambda value: RING(0, value)),
    (InvalidNumber, lambda value: RING >> value),
    (UnknownReader, lambda value: RING.with_days(value, 5)),
    (InvalidRing, lambda value: RING.with_days(0, value)),
    (UnknownReader, lambda value: begin_day(RING, value, 0)),
    (InvalidNumber, lambda value: begin_day(RING, 0, value)),
    (UnknownReader, lambda value: book_of(RING, value, 0)),
    (InvalidNumber, lambda value: book_of(RING, 0, value)),
    (UnknownReader, lambda value: readings_by(RING, value, 0)),
    (InvalidNumber, lambda value: readings_by(RING, 0, value)),
    (UnknownReader, lambda value: heap_on(RING, value, 0)),
    (InvalidNumber, lambda value: heap_on(RING, 0, value)),
    (UnknownReader, lambda value: longest_heap(RING, value)),
    (UnknownBook, lambda value: first_meeting(RING, value, 2)),
    (UnknownBook, lambda value: first_meeting(RING, 2, value)),
    (UnknownReader, lambda value: chain_of_waits(RING, value, 0)),
    (InvalidNumber, lambda value: chain_of_waits(RING, 0, value)),
    (InvalidChain, lambda value: judge_chain(RING, [(value, 0)])),
    (InvalidChain, lambda value: judge_chain(RING, [(0, value)])),
    (InvalidChain, lambda value: judge_pace(RING, [value])),
    (InvalidNumber, lambda value: pace_with(RING, value)),
    (UnknownReader, lambda value: slowest_days(RING, value)),
    (InvalidNumber, lambda value: fewest_days_less(RING, value, 1)),
    (InvalidNumber, lambda value: fewest_days_less(RING, 1, value)),
    (InvalidNumber, lambda value: live_ring().pass_days(value)),
    (UnknownReader, lambda value: live_ring().add(value)),
    (UnknownReader, lambda value: live_ring().set_days(value, 5)),
    (InvalidNumber, lambda value: live_ring().set_days(0, value)),
    (UnknownBook, lambda value: LiveRing(Ring((2, 2), (2, 0))).take(value)),
    (UnknownBook, lambda value: live_ring()(value)),
    (InvalidNumber, lambda value: entries(value)),
    (UnknownReader, lambda value: DaysObserver(RING, value)),
    (UnknownReader, lambda value: DaysObserver.from_log(RING, value, [])),
    (UnknownReader, lambda value: observer().see_end(value, 0, 2)),
    (InvalidNumber, lambda value: observer().see_end(0, value, 2)),
    (Contradiction, lambda value: DaysObserver(Ring((1, 2), (1, 0)), 1).see_end(0, 0, value)),
    (UnknownReader, lambda value: observer().see_open(value, 0, 0)),
    (InvalidNumber, lambda value: observer().see_open(0, value, 0)),
    (InvalidNumber, lambda value: observer().see_open(0, 0, value)),
    (UnknownReader, lambda value: observer().possible_ends(value, 0)),
    (InvalidNumber, lambda value: observer().possible_ends(0, value)),
    (UnknownReader, lambda value: observer().telling_number(value, 0)),
    (InvalidNumber, lambda value: observer().telling_number(0, value)),
    (InvalidNumber, lambda value: chart(RING, value)),
    (InvalidCount, lambda value: pack_bytes([value])),
]

# Calls of which more than one argument is wrong, with the error of the first one.
ORDERS = [
    (InvalidRing, lambda: Ring(None, None)),
    (UnknownReader, lambda: RING(3, -1)),
    (UnknownReader, lambda: RING.with_days(3, 31)),
    (UnknownReader, lambda: begin_day(RING, 3, -1)),
    (UnknownReader, lambda: book_of(RING, None, None)),
    (UnknownReader, lambda: readings_by(RING, True, True)),
    (UnknownReader, lambda: heap_on(RING, -1, -1)),
    (UnknownBook, lambda: first_meeting(RING, 3, 3)),
    (UnknownReader, lambda: chain_of_waits(RING, 3, 501)),
    (InvalidNumber, lambda: fewest_days_less(RING, 0, 0)),
    (UnknownReader, lambda: live_ring().set_days(3, 31)),
    (UnknownReader, lambda: DaysObserver.from_log(RING, 3, [("see_open", 0, 0, -1)])),
    (InvalidNumber, lambda: DaysObserver.from_log(RING, 0, [("see_open", 0, -1, 0), ("see_open", 3, 0, 0)])),
    (UnknownReader, lambda: observer().see_end(3, -1, -1)),
    (InvalidNumber, lambda: observer().see_end(0, -1, -1)),
    (UnknownReader, lambda: observer().see_open(3, -1, -1)),
    (InvalidNumber, lambda: observer().see_open(0, -1, 10 ** 18)),
    (InvalidNumber, lambda: observer().see_open(0, 0, 10 ** 18 + 1)),
    (UnknownReader, lambda: observer().possible_ends(3, -1)),
    (UnknownReader, lambda: observer().telling_number(3, -1)),
    (NotationError, lambda: parse_ring("reader 0 0\nreader")),
    (AlreadyOpen, lambda: waiting_in_a_block(("add",))),
    (UnknownReader, lambda: live_ring().apply(("add", 3), ("pass_days", -1))),
    (InvalidOperation, lambda: live_ring().apply(("add", 3), ("pass_days",))),
]

# All functions that return lists, each time of the same live ring and the same observer.
LIVE = live_ring()
OBSERVER = observer()
LISTS = [
    lambda: chain_of_waits(RING, 2, 7),
    lambda: pace_readers(RING),
    lambda: helpful_readers(RING),
    lambda: LIVE.waiting_books,
    lambda: LIVE.being_read,
    lambda: LIVE.history,
    lambda: LIVE.waiting_after(("pass_days", 3)),
    lambda: mended(RING, [(None, None, None)] * 4),
    lambda: OBSERVER.possible_days,
    lambda: OBSERVER.observations,
    lambda: OBSERVER.possible_ends(1, 3),
    lambda: unpack_bytes(encode_ring(RING)),
]

# Functions that take lists, and valid lists for them.
LIST_ARGUMENTS = [
    (lambda values: judge_chain(RING, values), [(0, 0), (0, 1), (1, 2)]),
    (lambda values: judge_pace(RING, values), [1, 2, 0]),
    (lambda values: mended(RING, values), [(None, 2, None), (2, None, 0)]),
    (lambda values: shown_live(LiveRing.replay(RING, values)), [("pass_days", 3), ("add", 0)]),
    (lambda values: shown_observer(DaysObserver.from_log(RING, 1, values)), [("see_open", 1, 0, 3)]),
    (pack_bytes, [82, 0, 255]),
]

# Functions that take lists, and invalid ones with lists in them.
WRONG_LISTS = [
    (InvalidChain, lambda values: judge_chain(RING, values), [(0, 0), [0, [1]]]),
    (InvalidChain, lambda values: judge_pace(RING, values), [0, [1], [[2]]]),
    (DiaryError, lambda values: mended(RING, values), [(None, 2, None), [2, [0], 0]]),
    (DiaryError, lambda values: mended(RING, values), [([1, [2]], None, None)]),
    (InvalidOperation, lambda values: LiveRing.replay(RING, values), [("add", 0), ["add", [0]]]),
    (InvalidNumber, lambda values: LiveRing.replay(RING, values), [("pass_days", [1, [2]])]),
    (Contradiction, lambda values: observer().see_end(0, 0, values), [1, [2]]),
    (InvalidCount, pack_bytes, [1, [2, [3]]]),
    (DecodeError, decode_ring, [82, [2]]),
    (NotationError, parse_ring, ["reader 1 1", ["reader 1 1"]]),
    (InvalidNumber, lambda values: chart(RING, values), [1, [2]]),
    (InvalidNumber, entries, [1, [2]]),
]


def is_valid(call, value):
    try:
        call(value)
    except ReadingError:
        return False
    return True


def waiting_in_a_block(*operations):
    live = live_ring()
    with live:
        return live.waiting_after(*operations)


def shown_live(live):
    return [live.today, live.waiting_books, live.being_read, live.history, len(live)]


def shown_with_undo(live):
    """All that a live ring shows, and what undo and redo would show."""
    states = [shown_live(live)]
    with live:
        while live.undo():
            states.append(shown_live(live))
    with live:
        while live.redo():
            states.append(shown_live(live))
    return states


def shown_observer(some):
    ends = [some.possible_ends(reader, number) for reader in range(3) for number in (0, 3, 10 ** 18)]
    return [some.possible_days, some.observations, ends, [some.telling_number(reader, 9) for reader in range(3)]]


class NumbersTest(unittest.TestCase):
    def test_values_that_are_no_numbers(self):
        for index, (error, call) in enumerate(PLACES_OF_NUMBERS):
            for value in NO_NUMBERS:
                with self.subTest(index=index, value=value):
                    refuse(self, error, call, value)

    def test_0_or_1_is_valid_there(self):
        for index, (_, call) in enumerate(PLACES_OF_NUMBERS):
            with self.subTest(index=index):
                self.assertTrue(is_valid(call, 0) or is_valid(call, 1))

    def test_values_in_torn_diaries(self):
        ring = Ring((1, 1), (1, 0))
        self.assertEqual(mended(ring, [(1, 0, 0), (2, 1, 0)]), [(1, 0, 0), (2, 1, 0)])
        for value in NO_NUMBERS:
            if value is not None:
                for entry in [(value, 0, 0), (1, value, 0), (1, 0, value)]:
                    refuse(self, DiaryError, mended, ring, [entry])

    def test_values_that_are_no_books(self):
        self.assertTrue(0 in LIVE and 1 in LIVE)
        for value in NO_NUMBERS:
            self.assertIs(value in LIVE, False)

    def test_order_of_errors(self):
        for index, (error, call) in enumerate(ORDERS):
            with self.subTest(index=index):
                refuse(self, error, call)


class ListsTest(unittest.TestCase):
    def test_results_are_equal_after_a_returned_list_was_modified(self):
        for index, call in enumerate(LISTS):
            with self.subTest(index=index):
                first = call()
                self.assertIs(first.__class__, list)
                self.assertTrue(first)
                expected = copy.deepcopy(first)
                first[0] = None
                first.append(None)
                self.assertEqual(call(), expected)
                first.clear()
                self.assertEqual(call(), expected)

    def test_results_of_apply_and_pass_days(self):
        live = live_ring()
        before = shown_with_undo(live)
        with live:
            live.apply(("pass_days", 5))[0].clear()
            live.pass_days(5).clear()
            expected = shown_live(live)
        self.assertEqual(shown_with_undo(live), before)
        with live:
            live.apply(("pass_days", 5), ("pass_days", 5))
            self.assertEqual(shown_live(live), expected)

    def test_lists_given_are_not_modified(self):
        for index, (call, values) in enumerate(LIST_ARGUMENTS):
            with self.subTest(index=index):
                given = copy.deepcopy(values)
                first = call(given)
                self.assertEqual(given, values)
                self.assertEqual(call(given), first)
                given.reverse()
                given.clear()
                self.assertEqual(call(copy.deepcopy(values)), first)

    def test_invalid_lists_are_not_modified(self):
        for index, (error, call, values) in enumerate(WRONG_LISTS):
            with self.subTest(index=index):
                given = copy.deepcopy(values)
                refuse(self, error, call, given)
                self.assertEqual(given, values)

    def test_lists_given_are_not_kept(self):
        operations, observations = [("pass_days", 3), ("add", 0)], [("see_open", 1, 0, 3)]
        live, some = LiveRing.replay(RING, operations), DaysObserver.from_log(RING, 1, observations)
        before = [shown_with_undo(live), shown_observer(some)]
        operations.clear()
        observations.append(("see_end", 1, 0, 9))
        self.assertEqual([shown_with_undo(live), shown_observer(some)], before)
        live.pass_days(1)
        some.see_open(1, 0, 5)
        self.assertEqual((operations, observations), ([], [("see_open", 1, 0, 3), ("see_end", 1, 0, 9)]))


class NothingChangesTest(unittest.TestCase):
    """Whatever is refused, everything is as it was."""

    def test_calls_that_raise(self):
        live, some = live_ring(), observer()

        def shown():
            return [
                RING.days, RING.starts, RING.pace, [RING(reader, 10 ** 18) for reader in range(3)], settled(RING),
                [longest_heap(RING, reader) for reader in range(3)], first_meeting(RING, 0, 1), fewest_books(RING),
                format_ring(RING), chart(RING, 9), encode_ring(RING), entries(20), mended(RING, [(None,) * 3] * 9),
                [call() for call in LISTS], shown_with_undo(live), shown_observer(some),
            ]

        before = shown()
        for error, call in [
            (BeingRead, lambda: live.take(0)), (UnknownBook, lambda: live.take(9)), (UnknownBook, lambda: live(9)),
            (InvalidNumber, lambda: live.pass_days(401)), (UnknownReader, lambda: live.add(3)),
            (InvalidNumber, lambda: live.set_days(0, 31)), (InvalidOperation, lambda: live.apply(("add", 0), ("add",))),
            (BeingRead, lambda: live.apply(("add", 0), ("take", 4), ("take", 0))),
            (BeingRead, lambda: live.waiting_after(("add", 0), ("take", 0))),
            (Contradiction, lambda: some.see_end(1, 0, 2)), (Contradiction, lambda: some.see_open(0, 0, 2)),
            (InvalidNumber, lambda: some.see_open(0, 0, -1)), (UnknownReader, lambda: some.see_end(3, 0, 0)),
            (InvalidNumber, lambda: some.telling_number(0, 501)), (SameBook, lambda: first_meeting(RING, 1, 1)),
            (OtherRing, lambda: first_unlike(RING, Ring.single(1, 1))), (DiaryError, lambda: mended(RING, [None])),
            (InvalidRing, lambda: parse_ring("reader 1 1")), (DecodeError, lambda: decode_ring(b"R")),
            *[(error, lambda call=call: call(None)) for error, call in PLACES_OF_NUMBERS], *ORDERS,
        ]:
            refuse(self, error, call)
        self.assertEqual(shown(), before)
        self.assertEqual(shown(), before)


if __name__ == "__main__":
    unittest.main()
