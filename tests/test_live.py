"""Points 11 and 12: live rings; examples, limits and wrong inputs."""

import unittest

from readingring.errors import (
    AlreadyOpen, BeingRead, InvalidNumber, InvalidOperation, UnknownBook, UnknownReader,
)
from readingring.live import LiveRing
from readingring.rings import Ring
from tests.refusals import NO_NUMBERS, refuse

NO_OPERATIONS = [
    None, True, False, 0, 7, "", "add", "undo", [], ["add", 0], ["pass_days", 1], (), (0,), (None,), (True, 0),
    ("add",), ("add", 0, 0), ("pass_days",), ("pass_days", 1, 1), ("set_days",), ("set_days", 0), ("take",),
    ("set_days", 0, 1, 1), ("take", 0, 0), ("Add", 0), ("add ", 0), ("", 0), ("undo",), ("redo",), ("undo", 0),
    ("apply", ("add", 0)), ("apply",), ("replay", 0), ("waiting_after",), ("today",), ("__len__",), ("books", 0),
    (("add", 0),), (["add"], 0), ((), 0), ("dict", 0), (0, "add"), ("add", 0, None),
]


def seen(live):
    """All that a live ring shows."""
    books = [book for book in range(40) if book in live]
    return (live.today, live.waiting_books, live.being_read, live.history, len(live), books,
            [live(book) for book in books])


def seen_with_redo(live):
    """All that a live ring shows, and what undo and redo would do, found out in a block."""
    states = [seen(live)]
    with live:
        while live.redo():
            states.append(seen(live))
    with live:
        while live.undo():
            states.append(seen(live))
    return states


class LiveTest(unittest.TestCase):
    def setUp(self):
        self.ring = Ring((2, 3), (2, 0))
        self.live = LiveRing(self.ring)


class ExamplesTest(LiveTest):
    """The examples of the interface."""

    def test_days_and_books(self):
        live = self.live
        self.assertEqual(
            [live.pass_days(5), live.being_read, live.waiting_books, live.add(0), live.take(2), live(0)],
            [[(2, 0, 0), (4, 0, 1), (5, 1, 0)], [(0, 7), (1, 8)], [(), ()], 2, 0, 0])

    def test_quicker_reader(self):
        live = self.live
        self.assertEqual([live.set_days(0, 1), live.pass_days(3), len(live), 5 in live],
                         [2, [(2, 0, 0), (3, 0, 1)], 2, False])

    def test_being_read(self):
        self.assertEqual(refuse(self, BeingRead, self.live.take, 0).book, 0)

    def test_undo_and_redo(self):
        live = self.live
        self.assertEqual(
            [live.apply(("pass_days", 2), ("add", 0)), live.undo(), live.undo(), live.undo(), live.redo(),
             live.history],
            [[[(2, 0, 0)], 2], True, True, False, True, [("pass_days", 2)]])

    def test_invalid_operation(self):
        self.assertEqual(refuse(self, InvalidOperation, self.live.apply, ("add", 0), ("add",)).index, 1)

    def test_waiting_after(self):
        self.assertEqual([self.live.waiting_after(("add", 0)), self.live.waiting_books], [[(1, 2), ()], [(1,), ()]])

    def test_replay(self):
        self.assertEqual(LiveRing.replay(self.ring, [("pass_days", 3)]).today, 3)


class BeginningTest(unittest.TestCase):
    def test_day_0(self):
        live = LiveRing(Ring((4, 5, 6), (0, 3, 1)))
        self.assertEqual(seen(live), (0, [(), (1, 2), ()], [None, (0, 5), (3, 6)], [], 4, [0, 1, 2, 3], [1, 1, 1, 2]))

    def test_the_ring_stays_as_it_is(self):
        ring = Ring((4, 5, 6), (0, 3, 1))
        live = LiveRing(ring)
        live.apply(("set_days", 0, 9), ("add", 0), ("take", 1), ("pass_days", 20))
        self.assertEqual((ring.days, ring.starts), ((4, 5, 6), (0, 3, 1)))
        self.assertEqual(LiveRing(ring).being_read, [None, (0, 5), (3, 6)])

    def test_live_rings_of_the_same_ring_change_apart(self):
        ring = Ring((2, 3), (2, 0))
        one, other = LiveRing(ring), LiveRing(ring)
        one.apply(("add", 1), ("pass_days", 7), ("set_days", 0, 5))
        self.assertEqual(seen(other), seen(LiveRing(ring)))
        self.assertFalse(other.undo())

    def test_arguments_by_name(self):
        ring = Ring((2, 3), (2, 0))
        live = LiveRing(ring=ring)
        self.assertEqual([live.add(reader=0), live.set_days(reader=0, days=1), live.take(book=2), live(book=1),
                          live.pass_days(count=2)], [2, 2, 0, 0, [(2, 0, 0)]])
        self.assertEqual(LiveRing.replay(ring=ring, operations=[("add", 0)]).waiting_books, [(1, 2), ()])


class PassDaysTest(LiveTest):
    def test_nought_days(self):
        self.assertEqual(self.live.pass_days(0), [])
        self.assertEqual((self.live.today, self.live.history), (0, [("pass_days", 0)]))
        self.assertTrue(self.live.undo())
        self.assertEqual(self.live.history, [])

    def test_nought_days_end_nothing_twice(self):
        self.assertEqual(self.live.pass_days(2), [(2, 0, 0)])
        self.assertEqual(self.live.pass_days(0), [])

    def test_400_days(self):
        entries = self.live.pass_days(400)
        self.assertEqual((self.live.today, entries[0], entries[-1]), (400, (2, 0, 0), (400, 0, 1)))
        self.assertEqual(entries, sorted(entries))
        self.assertEqual(self.live.pass_days(400)[0], (401, 1, 0))
        self.assertEqual(self.live.today, 800)

    def test_by_days_then_by_readers(self):
        live = LiveRing(Ring.single(2, 2, 2))
        self.assertEqual(live.pass_days(4), [(2, 0, 0), (2, 1, 1), (2, 2, 2), (4, 0, 2), (4, 1, 0), (4, 2, 1)])

    def test_one_by_one(self):
        other = LiveRing(self.ring)
        found = [entry for _ in range(60) for entry in other.pass_days(1)]
        self.assertEqual(found, self.live.pass_days(60))
        self.assertEqual((other.today, other.being_read), (self.live.today, self.live.being_read))

    def test_invalid_number(self):
        for count in [-1, 401, -400, 10 ** 18, 10 ** 5000, *NO_NUMBERS]:
            refuse(self, InvalidNumber, self.live.pass_days, count)
        self.assertEqual(seen(self.live), seen(LiveRing(self.ring)))


class AddTest(LiveTest):
    def test_reader_who_is_not_reading_begins_at_once(self):
        self.live.pass_days(1)
        self.assertEqual(self.live.add(1), 2)
        self.assertEqual((self.live.being_read, self.live.waiting_books), ([(0, 2), (2, 4)], [(1,), ()]))
        self.assertEqual(self.live.pass_days(3), [(2, 0, 0), (4, 0, 1), (4, 1, 2)])

    def test_behind_the_books_of_today(self):
        self.live.pass_days(2)
        self.assertEqual([self.live.add(1), self.live.add(1), self.live.add(0)], [2, 3, 4])
        self.assertEqual(self.live.waiting_books, [(4,), (2, 3)])

    def test_a_thirteenth_book(self):
        live = LiveRing(Ring((2, 3), (11, 0)))
        self.assertEqual(live.add(1), 11)
        for reader in [0, 1]:
            refuse(self, InvalidNumber, live.add, reader)
        self.assertEqual((len(live), 12 in live, live.history), (12, False, [("add", 1)]))
        live.take(5)
        self.assertEqual(live.add(0), 12)
        refuse(self, InvalidNumber, live.add, 0)
        self.assertEqual((len(live), 12 in live, 5 in live), (12, True, False))

    def test_numbers_are_not_used_again(self):
        self.assertEqual([self.live.add(0), self.live.take(2), self.live.add(0), self.live.add(1)], [2, 0, 3, 4])

    def test_a_refused_book_uses_no_number(self):
        live = LiveRing(Ring((2, 3), (12, 0)))
        refuse(self, InvalidNumber, live.add, 0)
        live.take(11)
        self.assertEqual(live.add(0), 12)

    def test_unknown_reader_comes_first(self):
        full = LiveRing(Ring((2, 3), (12, 0)))
        for reader in [-1, 2, 8, 10 ** 18, *NO_NUMBERS]:
            refuse(self, UnknownReader, self.live.add, reader)
            refuse(self, UnknownReader, full.add, reader)


class SetDaysTest(LiveTest):
    def test_readings_that_have_begun_stay(self):
        self.assertEqual(self.live.set_days(0, 30), 2)
        self.assertEqual(self.live.being_read, [(0, 2), None])
        self.assertEqual(self.live.pass_days(2), [(2, 0, 0)])
        self.assertEqual(self.live.being_read, [(1, 32), (0, 5)])

    def test_readings_that_begin_today_have_begun(self):
        self.live.pass_days(2)
        self.live.set_days(1, 1)
        self.assertEqual(self.live.being_read, [(1, 4), (0, 5)])

    def test_readings_that_begin_later_today(self):
        self.live.set_days(1, 1)
        self.live.add(1)
        self.assertEqual(self.live.being_read, [(0, 2), (2, 1)])

    def test_former_numbers(self):
        self.assertEqual([self.live.set_days(1, days) for days in [1, 30, 30, 5]], [3, 1, 30, 30])
        self.assertEqual(self.live.set_days(0, 7), 2)

    def test_invalid_number(self):
        for days in [0, 31, -1, 10 ** 5000, *NO_NUMBERS]:
            refuse(self, InvalidNumber, self.live.set_days, 0, days)
        self.assertEqual(self.live.set_days(0, 4), 2)

    def test_unknown_reader_comes_first(self):
        for reader in [-1, 2, 8, *NO_NUMBERS]:
            refuse(self, UnknownReader, self.live.set_days, reader, 4)
            refuse(self, UnknownReader, self.live.set_days, reader, 31)


class TakeTest(LiveTest):
    def test_waiting_book(self):
        self.assertEqual(self.live.take(1), 0)
        self.assertEqual(seen(self.live), (0, [(), ()], [(0, 2), None], [("take", 1)], 1, [0], [0]))
        self.assertEqual(self.live.pass_days(6), [(2, 0, 0), (5, 1, 0)])

    def test_from_between_others(self):
        live = LiveRing(Ring((2, 3), (1, 5)))
        self.assertEqual([live.take(3), live.take(5), live.take(2)], [1, 1, 1])
        self.assertEqual(live.waiting_books, [(), (4,)])

    def test_being_read(self):
        live = LiveRing(Ring((2, 3), (2, 2)))
        self.assertEqual([refuse(self, BeingRead, live.take, book).book for book in [0, 2]], [0, 2])
        self.assertEqual(live.history, [])
        live.pass_days(4)
        self.assertEqual(live.take(0), 1)

    def test_unknown_book(self):
        for book in [-1, 2, 12, 10 ** 5000, *NO_NUMBERS]:
            refuse(self, UnknownBook, self.live.take, book)
        self.live.take(1)
        refuse(self, UnknownBook, self.live.take, 1)


class BooksTest(LiveTest):
    def test_len(self):
        self.assertEqual(len(self.live), 2)
        self.live.add(1)
        self.assertEqual(len(self.live), 3)
        self.live.take(1)
        self.assertEqual(len(self.live), 2)
        self.assertEqual(len(LiveRing(Ring((2, 3), (12, 0)))), 12)
        self.assertEqual(len(LiveRing(Ring((2, 3), (0, 1)))), 1)

    def test_in(self):
        self.assertTrue(0 in self.live)
        self.assertTrue(1 in self.live)
        for book in [-1, 2, 10 ** 18, *NO_NUMBERS, {}, [[]], ((0, 2),), (0, 2), b"", object(), self.ring]:
            self.assertIs(book in self.live, False)

    def test_calls(self):
        self.assertEqual([self.live(0), self.live(1)], [0, 0])
        self.live.pass_days(2)
        self.assertEqual([self.live(0), self.live(1)], [1, 0])
        for book in [-1, 2, 10 ** 18, *NO_NUMBERS]:
            refuse(self, UnknownBook, self.live, book)

    def test_returned_lists_are_new(self):
        live = LiveRing(Ring((2, 3), (3, 1)))
        live.pass_days(3)
        before = seen(live)
        for _ in range(2):
            for values in [live.waiting_books, live.being_read, live.history]:
                values.append(None)
                values[0] = "changed"
            self.assertEqual(seen(live), before)
        entries = live.pass_days(4)
        entries.clear()
        self.assertTrue(live.undo() and live.redo())
        live.undo()
        self.assertEqual(live.pass_days(4), [(4, 0, 1), (6, 0, 2), (6, 1, 0)])

    def test_kinds_of_values(self):
        live = self.live
        live.apply(("pass_days", 2), ("add", 0))
        self.assertIs(live.today.__class__, int)
        for values in [live.waiting_books, live.being_read, live.history]:
            self.assertIs(values.__class__, list)
            self.assertEqual({value.__class__ for value in values}, {tuple})
        self.assertIs(live.pass_days(5).__class__, list)
        self.assertEqual([value.__class__ for value in [live.add(0), live.set_days(0, 1), live(0), live.take(2)]],
                         [int] * 4)
        self.assertIs(live.undo().__class__, bool)
        self.assertIs(live.waiting_after().__class__, list)

    def test_properties_are_not_set(self):
        for name in ["today", "waiting_books", "being_read", "history"]:
            with self.assertRaises(AttributeError):
                setattr(self.live, name, [])


class HistoryTest(LiveTest):
    def test_all_operations(self):
        self.live.add(1)
        self.live.pass_days(0)
        self.live.set_days(0, 9)
        self.live.take(1)
        self.live.pass_days(7)
        self.assertEqual(self.live.history,
                         [("add", 1), ("pass_days", 0), ("set_days", 0, 9), ("take", 1), ("pass_days", 7)])

    def test_refused_operations_are_not_in_it(self):
        for call, error in [
            (lambda: self.live.pass_days(401), InvalidNumber), (lambda: self.live.add(2), UnknownReader),
            (lambda: self.live.set_days(0, 0), InvalidNumber), (lambda: self.live.take(0), BeingRead),
            (lambda: self.live.take(9), UnknownBook), (lambda: self.live.apply(("add", 0), ("add", 2)), UnknownReader),
        ]:
            refuse(self, error, call)
            self.assertEqual(self.live.history, [])
            self.assertFalse(self.live.undo())

    def test_replay_of_a_history(self):
        self.live.apply(("pass_days", 3), ("add", 1), ("take", 2), ("add", 1), ("set_days", 1, 8), ("pass_days", 11))
        other = LiveRing.replay(self.ring, self.live.history)
        self.assertEqual(seen_with_redo(other), seen_with_redo(self.live))


class UndoTest(LiveTest):
    def test_nothing_to_undo_or_redo(self):
        for _ in range(2):
            self.assertIs(self.live.undo(), False)
            self.assertIs(self.live.redo(), False)
        self.live.add(0)
        self.assertIs(self.live.redo(), False)
        self.assertEqual(self.live.history, [("add", 0)])

    def test_all_back_and_all_again(self):
        operations = [("pass_days", 3), ("add", 0), ("set_days", 0, 7), ("take", 2), ("pass_days", 0), ("add", 1)]
        states = [seen(self.live)]
        for operation in operations:
            self.live.apply(operation)
            states.append(seen(self.live))
        for state in states[-2::-1]:
            self.assertIs(self.live.undo(), True)
            self.assertEqual(seen(self.live), state)
        self.assertIs(self.live.undo(), False)
        self.assertEqual(seen(self.live), states[0])
        for state in states[1:]:
            self.assertIs(self.live.redo(), True)
            self.assertEqual(seen(self.live), state)
        self.assertIs(self.live.redo(), False)
        self.assertEqual(seen(self.live), states[-1])

    def test_undone_book_gives_its_number_back(self):
        self.assertEqual([self.live.add(0), self.live.undo(), self.live.add(1)], [2, True, 2])

    def test_undone_days(self):
        self.live.set_days(0, 9)
        self.live.undo()
        self.assertEqual(self.live.set_days(0, 5), 2)

    def test_no_redo_after_an_operation(self):
        for operation in [("add", 0), ("pass_days", 0), ("set_days", 0, 2), ("take", 1)]:
            live = LiveRing(self.ring)
            live.apply(("pass_days", 1), ("pass_days", 0))
            self.assertEqual([live.undo(), live.undo()], [True, True])
            live.apply(operation)
            self.assertIs(live.redo(), False)
            self.assertEqual(live.history, [operation])

    def test_no_redo_of_more_after_redo_and_an_operation(self):
        self.live.apply(("pass_days", 1), ("add", 0), ("add", 1))
        self.assertEqual([self.live.undo(), self.live.undo(), self.live.redo()], [True, True, True])
        self.live.pass_days(0)
        self.assertFalse(self.live.redo())
        self.assertEqual(self.live.history, [("pass_days", 1), ("add", 0), ("pass_days", 0)])

    def test_redo_after_refused_operations(self):
        self.live.add(0)
        self.live.undo()
        refuse(self, InvalidNumber, self.live.pass_days, 401)
        refuse(self, UnknownReader, self.live.add, 2)
        refuse(self, BeingRead, self.live.take, 0)
        refuse(self, InvalidOperation, self.live.apply, ("pass_days", 1), None)
        refuse(self, UnknownBook, self.live.apply, ("pass_days", 1), ("take", 9))
        refuse(self, UnknownBook, self.live.waiting_after, ("pass_days", 1), ("take", 9))
        self.assertIs(self.live.redo(), True)
        self.assertEqual(self.live.history, [("add", 0)])

    def test_redo_after_reading_and_an_empty_block(self):
        self.live.add(0)
        self.live.undo()
        seen(self.live)
        self.live.waiting_after(("add", 1))
        with self.live:
            pass
        self.assertTrue(self.live.redo())
        self.assertEqual(self.live.history, [("add", 0)])


class ApplyTest(LiveTest):
    def test_results(self):
        self.assertEqual(self.live.apply(("set_days", 0, 1), ("add", 1), ("pass_days", 2)), [2, 2, [(2, 0, 0)]])
        self.assertEqual(self.live.apply(("take", 0)), [1])

    def test_each_operation_is_undone_alone(self):
        self.live.apply(("pass_days", 1), ("pass_days", 2))
        self.assertTrue(self.live.undo())
        self.assertEqual((self.live.today, self.live.history), (1, [("pass_days", 1)]))

    def test_without_operations(self):
        self.assertEqual(self.live.apply(), [])
        self.live.pass_days(1)
        self.live.undo()
        self.assertEqual(self.live.apply(), [])
        self.assertIs(self.live.redo(), True)

    def test_invalid_operation(self):
        for value in NO_OPERATIONS:
            for ahead in range(3):
                before = seen_with_redo(self.live)
                error = refuse(self, InvalidOperation, self.live.apply, *[("pass_days", 1)] * ahead, value, None)
                self.assertEqual(error.index, ahead, value)
                self.assertEqual(seen_with_redo(self.live), before)

    def test_form_is_checked_before_anything_is_executed(self):
        error = refuse(self, InvalidOperation, self.live.apply, ("add", 7), ("take", 0), ("take",))
        self.assertEqual(error.index, 2)

    def test_arguments_are_looked_at_later(self):
        self.assertEqual(self.live.apply(("add", 1), ("take", 1), ("add", 1), ("take", 3)), [2, 0, 3, 1])
        for value in NO_NUMBERS:
            refuse(self, UnknownReader, self.live.apply, ("add", value))
            refuse(self, UnknownReader, self.live.apply, ("set_days", value, value))
            refuse(self, InvalidNumber, self.live.apply, ("set_days", 0, value))
            refuse(self, UnknownBook, self.live.apply, ("take", value))
            refuse(self, InvalidNumber, self.live.apply, ("pass_days", value))

    def test_a_later_operation_fails(self):
        self.live.apply(("add", 0), ("pass_days", 1), ("add", 1))
        self.live.undo()
        before = seen_with_redo(self.live)
        good = [("pass_days", 4), ("add", 1), ("set_days", 0, 8), ("take", 3)]
        for bad, error in [
            (("add", 2), UnknownReader), (("pass_days", 401), InvalidNumber), (("set_days", 0, 31), InvalidNumber),
            (("set_days", 2, 31), UnknownReader), (("take", 3), UnknownBook), (("take", 1), BeingRead),
        ]:
            refuse(self, error, self.live.apply, *good, bad)
            self.assertEqual(seen_with_redo(self.live), before)
            refuse(self, error, self.live.apply, *good, bad, *good)
            self.assertEqual(seen_with_redo(self.live), before)
        self.assertTrue(self.live.redo())

    def test_a_thirteenth_book(self):
        live = LiveRing(Ring((2, 3), (10, 0)))
        refuse(self, InvalidNumber, live.apply, ("add", 0), ("add", 0), ("add", 0))
        self.assertEqual((len(live), live.history), (10, []))
        self.assertEqual(live.apply(("add", 0), ("add", 0), ("take", 3), ("add", 0)), [10, 11, 0, 12])

    def test_attribute_of_the_error(self):
        error = refuse(self, BeingRead, self.live.apply, ("pass_days", 2), ("take", 1))
        self.assertEqual(error.book, 1)

    def test_operations_stay_as_they_are(self):
        value = [1, [2]]
        operation = ("take", value)
        refuse(self, UnknownBook, self.live.apply, ("add", 0), operation)
        self.assertEqual((operation, value), (("take", [1, [2]]), [1, [2]]))


class ReplayTest(LiveTest):
    def test_no_operations(self):
        live = LiveRing.replay(self.ring, [])
        self.assertIs(live.__class__, LiveRing)
        self.assertEqual(seen_with_redo(live), seen_with_redo(self.live))

    def test_operations_can_be_undone(self):
        live = LiveRing.replay(self.ring, [("pass_days", 3), ("add", 1)])
        self.assertEqual(live.history, [("pass_days", 3), ("add", 1)])
        self.assertEqual([live.undo(), live.undo(), live.undo(), live.redo()], [True, True, False, True])

    def test_errors(self):
        for value in NO_OPERATIONS:
            error = refuse(self, InvalidOperation, LiveRing.replay, self.ring, [("add", 9), value])
            self.assertEqual(error.index, 1)
        refuse(self, UnknownReader, LiveRing.replay, self.ring, [("add", 1), ("add", 9)])
        self.assertEqual(refuse(self, BeingRead, LiveRing.replay, self.ring, [("take", 0)]).book, 0)

    def test_the_list_is_neither_changed_nor_kept(self):
        operations = [("pass_days", 3), ("add", 1)]
        live = LiveRing.replay(self.ring, operations)
        self.assertEqual(operations, [("pass_days", 3), ("add", 1)])
        operations.clear()
        self.assertEqual(live.history, [("pass_days", 3), ("add", 1)])


class InTheMiddleTest(LiveTest):
    """A live ring with operations to undo and to redo."""

    def setUp(self):
        LiveTest.setUp(self)
        self.live.apply(("pass_days", 3), ("add", 1), ("set_days", 1, 9), ("add", 0))
        self.live.undo()
        self.before = seen_with_redo(self.live)

    def assert_as_before(self):
        self.assertEqual(seen_with_redo(self.live), self.before)
        self.assertTrue(self.live.redo())
        self.assertEqual(self.live.history[-1], ("add", 0))


class BlockTest(InTheMiddleTest):
    def test_operations_in_a_block(self):
        with self.live:
            self.assertEqual(self.live.pass_days(4), [(4, 0, 1), (5, 1, 0), (7, 0, 0)])
            self.assertEqual(self.live.add(1), 3)
            self.assertEqual((self.live.today, len(self.live)), (7, 4))
            self.assertFalse(self.live.redo())
        self.assert_as_before()

    def test_undo_in_a_block(self):
        with self.live:
            while self.live.undo():
                pass
            self.assertEqual((self.live.today, self.live.history), (0, []))
        self.assert_as_before()

    def test_redo_in_a_block(self):
        with self.live:
            self.assertTrue(self.live.redo())
            self.assertFalse(self.live.redo())
        self.assert_as_before()

    def test_block_that_is_left_by_an_error(self):
        with self.assertRaises(ZeroDivisionError):
            with self.live:
                self.live.add(1)
                self.live.undo()
                self.live.undo()
                self.live.pass_days(400)
                raise ZeroDivisionError
        self.assert_as_before()

    def test_block_that_is_left_by_an_error_of_the_package(self):
        def block():
            with self.live:
                self.live.pass_days(50)
                self.live.take(77)

        refuse(self, UnknownBook, block)
        self.assert_as_before()

    def test_block_that_is_left_early(self):
        def block():
            for _ in range(3):
                with self.live:
                    self.live.pass_days(9)
                    continue
            with self.live:
                return self.live.pass_days(1)

        self.assertEqual(block(), [(4, 0, 1)])
        self.assert_as_before()

    def test_block_within_a_block(self):
        with self.live:
            self.live.add(1)
            inside = seen(self.live)
            with self.assertRaises(AlreadyOpen):
                with self.live:
                    self.fail("the inner block has been entered")
            self.assertEqual(seen(self.live), inside)
            refuse(self, AlreadyOpen, self.live.__enter__)
            refuse(self, AlreadyOpen, self.live.waiting_after, ("add", 0))
            self.assertEqual(seen(self.live), inside)
            self.live.add(1)
        self.assert_as_before()

    def test_block_within_a_block_that_ends_both(self):
        def blocks():
            with self.live:
                self.live.add(1)
                with self.live:
                    pass

        refuse(self, AlreadyOpen, blocks)
        self.assert_as_before()
        self.assertEqual(self.live.waiting_after(), self.live.waiting_books)

    def test_blocks_one_after_the_other(self):
        for _ in range(3):
            with self.live:
                self.live.pass_days(5)
        self.assert_as_before()

    def test_blocks_of_two_live_rings(self):
        other = LiveRing(self.ring)
        with self.live, other:
            self.live.pass_days(5)
            other.pass_days(6)
            self.assertEqual((self.live.today, other.today), (8, 6))
        self.assertEqual(other.today, 0)
        self.assert_as_before()

    def test_operations_after_a_block(self):
        with self.live:
            self.live.pass_days(5)
        self.assertEqual(self.live.add(0), 3)
        self.assertEqual(self.live.history[-2:], [("set_days", 1, 9), ("add", 0)])


class WaitingAfterTest(InTheMiddleTest):
    def test_without_operations(self):
        self.assertEqual(self.live.waiting_after(), [(), (2,)])
        self.assert_as_before()

    def test_many_operations(self):
        self.assertEqual(self.live.waiting_after(("add", 1), ("take", 2), ("add", 0)), [(4,), (3,)])
        self.assert_as_before()

    def test_errors(self):
        for value in NO_OPERATIONS:
            error = refuse(self, InvalidOperation, self.live.waiting_after, ("pass_days", 1), ("add", 9), value)
            self.assertEqual(error.index, 2)
        self.assertEqual(refuse(self, BeingRead, self.live.waiting_after, ("pass_days", 9), ("take", 2)).book, 2)
        refuse(self, UnknownReader, self.live.waiting_after, ("pass_days", 9), ("add", 2))
        self.assert_as_before()

    def test_already_open_comes_first(self):
        with self.live:
            for value in NO_OPERATIONS:
                refuse(self, AlreadyOpen, self.live.waiting_after, value)
            refuse(self, AlreadyOpen, self.live.waiting_after)
            refuse(self, AlreadyOpen, self.live.waiting_after, ("add", 9))
        self.assert_as_before()


if __name__ == "__main__":
    unittest.main()
