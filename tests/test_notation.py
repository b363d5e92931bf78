"""Point 15: texts of rings and charts; examples, limits and wrong inputs."""

import unittest

from readingring.errors import InvalidNumber, InvalidRing, NotationError
from readingring.notation import chart, format_ring, parse_ring
from readingring.rings import Ring
from tests.refusals import NO_NUMBERS, refuse

# Each of these is wrong where a number should stand.
NO_NUMBER_WORDS = [
    "", "00", "01", "09", "000", "012", "100", "123", "999", "1000", "1" * 5000, "-1", "+1", "-0", "1.", "1.0", "1_0",
    "_1", "a", "1a", "a1", "0x1", "1e", "\t1", "1\t", "1\r", "\r", "1,", "one", "reader", "None", "True", "\u0661",
    "\u00b2", "1\u0662", "\uff11", "\u00a01", "1\x0b", "\x0c", "\x1c", "\u2028", "\x00",
]

NO_READER_WORDS = [
    "", "Reader", "READER", "reade", "readers", "reader:", "reader\t", "\treader", "\rreader", "read", "r", "0", "1",
    "10", "reader\u00a0", "\ufeffreader", "\u0433eader", "None",
]

NO_TEXTS = [None, True, False, 0, 1, (), [], ("reader 1 1",), ["reader 1 1", "reader 1 1"], [["reader", "1", "1"]]]


class ExamplesTest(unittest.TestCase):
    """The examples of the interface."""

    def test_texts(self):
        self.assertEqual([format_ring(Ring((2, 3), (2, 0))), parse_ring("reader 9 1\nreader 1 0").days],
                         ["reader 2 2\nreader 3 0", (9, 1)])

    def test_leading_zero(self):
        error = refuse(self, NotationError, parse_ring, "reader 1 1\nreader 01 1")
        self.assertEqual((error.row, error.word), (1, 1))

    def test_chart(self):
        self.assertEqual(chart(Ring((2, 3), (2, 0)), 5), "0 ####.  0\n1 ..###  1")


class TextTest(unittest.TestCase):
    def test_rows_of_all_readers(self):
        ring = Ring((30, 1, 2, 10, 9, 3, 4, 5), (0, 1, 10, 0, 0, 0, 0, 1))
        text = ("reader 30 0\nreader 1 1\nreader 2 10\nreader 10 0\n"
                "reader 9 0\nreader 3 0\nreader 4 0\nreader 5 1")
        self.assertEqual(format_ring(ring), text)
        self.assertEqual(parse_ring(text), ring)

    def test_all_days_and_all_books(self):
        for days in range(1, 31):
            for books in range(1, 13):
                text = f"reader {days} 0\nreader {31 - days} {books}"
                ring = Ring((days, 31 - days), (0, books))
                self.assertEqual(format_ring(ring), text)
                self.assertEqual(parse_ring(text), ring)

    def test_kinds_of_values(self):
        ring = parse_ring("reader 2 2\nreader 3 0")
        self.assertIs(ring.__class__, Ring)
        self.assertEqual((ring.days, ring.starts), ((2, 3), (2, 0)))
        self.assertIs(format_ring(ring).__class__, str)

    def test_arguments_by_name(self):
        ring = Ring((2, 3), (2, 0))
        self.assertEqual(parse_ring(text=format_ring(ring=ring)), ring)
        self.assertEqual(chart(ring=ring, count=1), "0 #  1\n1 .  0")


class WrongTextTest(unittest.TestCase):
    def assert_wrong(self, text, row, word):
        error = refuse(self, NotationError, parse_ring, text)
        self.assertEqual((error.row, error.word), (row, word), text)

    def assert_wrong_row(self, row, word):
        """Assert that a row is wrong at a word wherever it stands, also ahead of rows that are wrong."""
        self.assert_wrong(row, 0, word)
        self.assert_wrong(row + "\nreader 1 1", 0, word)
        self.assert_wrong("reader 1 1\n" + row, 1, word)
        self.assert_wrong("reader 1 1\nreader 1 1\n" + row + "\nreader 1 1", 2, word)
        self.assert_wrong("reader 1 1\n" * 8 + row, 8, word)
        self.assert_wrong("reader 99 99\n" * 20 + row, 20, word)
        self.assert_wrong(row + "\n" + row, 0, word)
        self.assert_wrong("reader 0 99\n" + row + "\n\nreader", 1, word)

    def test_empty_text(self):
        self.assert_wrong("", 0, 0)

    def test_empty_rows(self):
        self.assert_wrong_row("", 0)
        self.assert_wrong("\n", 0, 0)
        self.assert_wrong("\n\n", 0, 0)
        self.assert_wrong("reader 1 1\nreader 1 1\n", 2, 0)
        self.assert_wrong("\nreader 1 1\nreader 1 1", 0, 0)
        self.assert_wrong("reader 1 1\n\nreader 1 1", 1, 0)

    def test_empty_words(self):
        self.assert_wrong_row(" ", 0)
        self.assert_wrong_row("   ", 0)
        self.assert_wrong_row(" reader 1 1", 0)
        self.assert_wrong_row("reader  1 1", 1)
        self.assert_wrong_row("reader 1  1", 2)
        self.assert_wrong_row("reader 1 1 ", 3)
        self.assert_wrong_row("reader 1 1  ", 3)
        self.assert_wrong_row("reader ", 1)
        self.assert_wrong_row("reader 1 ", 2)
        self.assert_wrong_row("reader  ", 1)

    def test_missing_words(self):
        self.assert_wrong_row("reader", 1)
        self.assert_wrong_row("reader 1", 2)

    def test_superfluous_words(self):
        for word in ["1", "0", "x", "reader", "01", "#"]:
            self.assert_wrong_row("reader 1 1 " + word, 3)
            self.assert_wrong_row("reader 1 1 " + word + " 1 1", 3)
        self.assert_wrong_row("reader 1 1 reader 1 1", 3)

    def test_words_that_are_not_reader(self):
        for word in NO_READER_WORDS:
            self.assert_wrong_row(word + " 1 1", 0)
            self.assert_wrong_row(word + " 01 1 1", 0)
            self.assert_wrong_row(word, 0)

    def test_words_that_are_no_numbers(self):
        for word in NO_NUMBER_WORDS:
            self.assert_wrong_row(f"reader {word} 1", 1)
            self.assert_wrong_row(f"reader 1 {word}", 2)
            self.assert_wrong_row(f"reader {word} {word}", 1)
            self.assert_wrong_row(f"reader {word}", 1)
            self.assert_wrong_row(f"reader {word} 1 1", 1)
            self.assert_wrong_row(f"reader 1 {word} 1", 2)

    def test_other_breaks_of_rows(self):
        self.assert_wrong("reader 1 1\r\nreader 1 1", 0, 2)
        self.assert_wrong("reader 1 1\rreader 1 1", 0, 2)
        self.assert_wrong("reader 1 1\x0creader 1 1", 0, 2)
        self.assert_wrong("reader 1 1\u2028reader 1 1", 0, 2)

    def test_other_spaces(self):
        self.assert_wrong("reader\t1\t1\nreader 1 1", 0, 0)
        self.assert_wrong("reader 1\t1\nreader 1 1", 0, 1)

    def test_not_a_text(self):
        for value in NO_TEXTS:
            self.assert_wrong(value, 0, 0)


class InvalidRingTextTest(unittest.TestCase):
    def assert_invalid(self, text, part, index):
        error = refuse(self, InvalidRing, parse_ring, text)
        self.assertEqual((error.part, error.index), (part, index), text)

    def test_numbers_of_readers(self):
        self.assert_invalid("reader 1 1", "days", 1)
        self.assert_invalid("\n".join(["reader 1 1"] * 9), "days", 8)
        self.assert_invalid("\n".join(["reader 99 99"] * 9), "days", 0)

    def test_days(self):
        self.assert_invalid("reader 0 1\nreader 1 1", "days", 0)
        self.assert_invalid("reader 30 1\nreader 31 1", "days", 1)
        self.assert_invalid("reader 1 99\nreader 99 1", "days", 1)

    def test_books(self):
        self.assert_invalid("reader 1 13\nreader 1 0", "starts", 0)
        self.assert_invalid("reader 1 12\nreader 1 99", "starts", 1)
        self.assert_invalid("reader 1 0\nreader 1 0", "starts", -1)
        self.assert_invalid("reader 1 12\nreader 1 1", "starts", -1)


class ChartTest(unittest.TestCase):
    def test_one_day(self):
        self.assertEqual(chart(Ring((2, 3, 1), (1, 0, 3)), 1), "0 #  0\n1 .  0\n2 #  2")

    def test_100_days(self):
        ring = Ring((30, 20), (1, 0))
        rows = chart(ring, 100).split("\n")
        self.assertEqual(rows, ["0 " + "#" * 30 + "." * 20 + "#" * 30 + "." * 20 + "  0",
                                "1 " + "." * 30 + "#" * 20 + "." * 30 + "#" * 20 + "  0"])

    def test_all_numbers_of_days(self):
        ring = Ring((1, 1), (1, 0))
        for count in range(1, 101):
            marks = "#." * 50
            self.assertEqual(chart(ring, count), f"0 {marks[:count]}  0\n1 .{marks[:count - 1]}  0")

    def test_heaps_of_two_digits(self):
        ring = Ring((4, 30), (12, 0))
        self.assertEqual(chart(ring, 1), "0 # 11\n1 .  0")
        self.assertEqual(chart(ring, 5), "0 ##### 10\n1 ....#  0")
        self.assertEqual(chart(ring, 9), "0 #########  9\n1 ....#####  1")

    def test_reader_who_begins_again_on_the_day_of_an_end(self):
        self.assertEqual(chart(Ring.single(2, 2), 6), "0 ######  0\n1 ######  0")

    def test_reader_who_begins_on_the_last_day(self):
        ring = Ring((3, 2), (1, 0))
        self.assertEqual([chart(ring, count).split("\n")[1] for count in [3, 4, 5, 6]],
                         ["1 ...  0", "1 ...#  0", "1 ...##  0", "1 ...##.  0"])

    def test_eight_readers(self):
        rows = chart(Ring((1,) * 8, (0, 0, 0, 0, 0, 0, 0, 1)), 8).split("\n")
        self.assertEqual(rows, [f"{reader} " + "." * (reader + 1) + "#" + "." * (6 - reader) + "  0"
                                for reader in range(7)] + ["7 #.......  0"])

    def test_invalid_number(self):
        for count in [0, 101, -1, 10 ** 18, 10 ** 5000, *NO_NUMBERS]:
            refuse(self, InvalidNumber, chart, Ring((2, 3), (2, 0)), count)


if __name__ == "__main__":
    unittest.main()
