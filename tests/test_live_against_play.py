"""Points 11 and 12 for many live rings, against a plain play that keeps all earlier states."""

import random
import unittest

from readingring.errors import ReadingError
from readingring.live import LiveRing
from readingring.rings import Ring
from tests.live_play import LivePlay, Refused
from tests.play import Play, SPECIAL_RINGS, random_rings
from tests.refusals import NO_NUMBERS


def outcome_of_live(call, *arguments):
    try:
        return ("result", call(*arguments))
    except ReadingError as error:
        attribute = getattr(error, "book", getattr(error, "index", None))
        return ("error", (error.__class__.__name__, attribute))


def outcome_of_play(call, *arguments):
    try:
        return ("result", call(*arguments))
    except Refused as refused:
        return ("error", refused.told)


class Pair:
    """A live ring and a play to which the same things happen."""

    def __init__(self, test, days, starts, seed):
        self.test = test
        self.told = (days, starts, seed)
        self.live = LiveRing(Ring(days, starts))
        self.play = LivePlay(days, starts)
        self.chance = random.Random(seed)

    def compare(self, name, *arguments):
        found = outcome_of_live(getattr(self.live, name), *arguments)
        expected = outcome_of_play(getattr(self.play, name), *arguments)
        self.test.assertEqual(found, expected, (self.told, name, arguments))
        self.compare_states()

    def compare_operation(self, operation):
        """Let an operation happen by its own method."""
        found = outcome_of_live(getattr(self.live, operation[0]), *operation[1:])
        expected = outcome_of_play(lambda: self.play.apply(operation)[0])
        self.test.assertEqual(found, expected, (self.told, operation))
        self.compare_states()

    def compare_states(self):
        live, play = self.live, self.play
        found = (live.today, live.waiting_books, live.being_read, live.history, len(live))
        expected = (play.day, play.waiting(), play.reading(), play.log, len(play.books()))
        self.test.assertEqual(found, expected, self.told)
        for book in [-1, *range(play.ever + 2), self.chance.choice(NO_NUMBERS)]:
            self.test.assertEqual(outcome_of_live(live, book), outcome_of_play(play.place, book), self.told)
            self.test.assertIs(book in live, type(book) is int and book in play.books())

    def some_operation(self):
        chance = self.chance
        reader = chance.randrange(self.play.readers)
        if chance.random() < 0.05:
            reader = chance.choice([-1, self.play.readers, *NO_NUMBERS])
        kind = chance.randrange(4)
        if kind == 0:
            return ("pass_days", chance.choice([0, 1, 1, 2, 3, 5, 9, 30, 61, chance.choice([400, 401, -1, None])]))
        if kind == 1:
            return ("add", reader)
        if kind == 2:
            return ("set_days", reader, chance.choice([1, 2, 3, 7, 30, chance.choice([0, 31, True])]))
        waiting = [book for books in self.play.waiting() for book in books]
        if waiting and chance.random() < 0.8:
            return ("take", chance.choice(waiting))
        return ("take", chance.choice([*range(-1, self.play.ever + 1), chance.choice(NO_NUMBERS)]))

    def some_operations(self):
        many = self.chance.choice([0, 1, 2, 3, 5])
        operations = [self.some_operation() for _ in range(many)]
        if self.chance.random() < 0.1:
            operations.append(self.chance.choice([("add",), None, ["add", 0], ("undo",), ("set_days", 0), (), 5]))
            self.chance.shuffle(operations)
        return operations

    def step(self):
        kind = self.chance.random()
        if kind < 0.5:
            self.compare_operation(self.some_operation())
        elif kind < 0.65:
            self.compare("undo")
        elif kind < 0.8:
            self.compare("redo")
        elif kind < 0.9:
            self.compare("apply", *self.some_operations())
        elif kind < 0.95:
            self.compare("waiting_after", *self.some_operations())
        elif self.play.block is None:
            self.block()

    def block(self):
        self.play.enter()
        try:
            with self.live:
                for _ in range(self.chance.randrange(8)):
                    self.step()
                if self.chance.random() < 0.4:
                    raise ZeroDivisionError
        except ZeroDivisionError:
            pass
        self.play.leave()
        self.compare_states()


class AgainstLivePlayTest(unittest.TestCase):
    def test_random_operations(self):
        for seed, (days, starts) in enumerate(SPECIAL_RINGS + random_rings(140, 11) + random_rings(140, 12, 3)):
            pair = Pair(self, days, starts, seed)
            pair.compare_states()
            for _ in range(40):
                pair.step()
            while pair.live.undo():
                self.assertTrue(pair.play.undo())
                pair.compare_states()
            while pair.live.redo():
                self.assertTrue(pair.play.redo())
                pair.compare_states()
            self.assertFalse(pair.play.undone)

    def test_replay_of_random_histories(self):
        for seed, (days, starts) in enumerate(random_rings(70, 13, 9)):
            pair = Pair(self, days, starts, seed)
            for _ in range(30):
                pair.compare_operation(pair.some_operation())
            pair.live = LiveRing.replay(Ring(days, starts), pair.live.history)
            pair.compare_states()
            for _ in range(31):
                pair.compare("undo")


class AgainstRingTest(unittest.TestCase):
    """A live ring in which only days pass does what the ring does."""

    def test_readings_and_heaps(self):
        for days, starts in SPECIAL_RINGS + random_rings(70, 14):
            live, play = LiveRing(Ring(days, starts)), Play(days, starts)
            entries = live.pass_days(400)
            self.assertTrue(live.undo())
            expected = []
            for reader in range(len(days)):
                number = 0
                while play.end(reader, number) <= 400:
                    expected.append((play.end(reader, number), reader, play.book(reader, number)))
                    number += 1
            self.assertEqual(entries, sorted(expected), (days, starts))
            for day in range(60):
                heaps = [len(books) for books in live.waiting_books]
                self.assertEqual(heaps, [play.heap_on(reader, day) for reader in range(len(days))])
                live.pass_days(1)


if __name__ == "__main__":
    unittest.main()
