"""Point 16: bytes of rings; examples, limits and wrong inputs."""

import unittest

from readingring.codec import decode_ring, encode_ring, pack_bytes, unpack_bytes
from readingring.errors import DecodeError, InvalidCount
from readingring.rings import Ring
from tests.refusals import NO_LISTS, NO_NUMBERS, refuse

NO_BYTES = [None, True, False, 0, 82, "", "R", (), (82,), [], [82, 2, 2, 2, 3, 0, 199]]

# The rings ((2, 3), (2, 0)) and ((30, 1, 7), (0, 0, 12)), with checksums found by hand.
SMALL = [82, 2, 2, 2, 3, 0, 199]
LARGE = [82, 3, 30, 0, 1, 0, 7, 12, 209]


def with_checksum(values):
    """Return values and the checksum behind them."""
    total = 7 ** len(values)
    for place, value in enumerate(reversed(values)):
        total += value * 7 ** place
    return [*values, total % 251]


class ExamplesTest(unittest.TestCase):
    """The examples of the interface."""

    def test_values(self):
        self.assertEqual(unpack_bytes(pack_bytes([82, 0, 255])), [82, 0, 255])

    def test_ring(self):
        ring = Ring((2, 3), (2, 0))
        self.assertTrue(decode_ring(encode_ring(ring)) == ring)

    def test_too_many_books(self):
        self.assertEqual(refuse(self, DecodeError, decode_ring, pack_bytes([82, 2, 5, 13])).offset, 3)


class ValuesTest(unittest.TestCase):
    def test_all_values(self):
        values = list(range(256))
        data = pack_bytes(values)
        self.assertIs(data.__class__, bytes)
        self.assertEqual(data, bytes(values))
        self.assertEqual(unpack_bytes(data), values)
        self.assertEqual({value.__class__ for value in unpack_bytes(data)}, {int})

    def test_no_values(self):
        self.assertEqual((pack_bytes([]), unpack_bytes(b"")), (b"", []))

    def test_values_out_of_the_limits(self):
        for value in [-1, 256, -256, 10 ** 18, 10 ** 5000]:
            for values in [[value], [0, value], [value, 0], [1, 2, value, 3]]:
                refuse(self, InvalidCount, pack_bytes, values)

    def test_values_that_are_no_numbers(self):
        for value in NO_NUMBERS:
            for values in [[value], [0, value], [value, 0]]:
                refuse(self, InvalidCount, pack_bytes, values)

    def test_not_a_list(self):
        for values in [*NO_LISTS, (82, 2), "82", b"", b"R", 5]:
            refuse(self, InvalidCount, pack_bytes, values)

    def test_the_list_is_neither_changed_nor_kept(self):
        values = [1, 2, 3]
        data = pack_bytes(values)
        self.assertEqual(values, [1, 2, 3])
        values.clear()
        self.assertEqual(data, bytes([1, 2, 3]))
        wrong = [1, [2], True]
        refuse(self, InvalidCount, pack_bytes, wrong)
        self.assertEqual(wrong, [1, [2], True])

    def test_new_list_for_each_call(self):
        data = bytes([1, 2])
        unpack_bytes(data).clear()
        self.assertEqual(unpack_bytes(data), [1, 2])

    def test_arguments_by_name(self):
        self.assertEqual(unpack_bytes(data=pack_bytes(values=[7])), [7])
        self.assertEqual(list(encode_ring(ring=decode_ring(data=bytes(SMALL)))), SMALL)


class RingBytesTest(unittest.TestCase):
    def test_known_bytes(self):
        for days, starts, values in [((2, 3), (2, 0), SMALL), ((30, 1, 7), (0, 0, 12), LARGE)]:
            ring = Ring(days, starts)
            self.assertEqual(encode_ring(ring), bytes(values))
            self.assertEqual(decode_ring(bytes(values)), ring)

    def test_kinds_of_values(self):
        ring = decode_ring(bytes(SMALL))
        self.assertIs(ring.__class__, Ring)
        self.assertEqual((ring.days, ring.starts), ((2, 3), (2, 0)))
        self.assertIs(encode_ring(ring).__class__, bytes)

    def test_checksum_is_the_rest_of_a_sum(self):
        for days in range(1, 31):
            for books in range(1, 13):
                values = with_checksum([82, 2, days, 0, 31 - days, books])
                ring = Ring((days, 31 - days), (0, books))
                self.assertEqual(encode_ring(ring), bytes(values))
                self.assertEqual(decode_ring(bytes(values)), ring)

    def test_all_numbers_of_readers(self):
        for many in range(2, 9):
            ring = Ring.single(*range(1, many + 1))
            data = encode_ring(ring)
            self.assertEqual((len(data), data[0], data[1]), (2 * many + 3, 82, many))
            self.assertEqual(decode_ring(data), ring)


class WrongBytesTest(unittest.TestCase):
    def assert_wrong(self, data, offset):
        error = refuse(self, DecodeError, decode_ring, data)
        self.assertEqual(error.offset, offset, data)

    def assert_wrong_values(self, values, offset):
        """Assert that bytes are wrong at an offset, whatever comes behind it."""
        self.assert_wrong(bytes(values), offset)
        self.assert_wrong(bytes(values[:offset + 1]), offset)
        self.assert_wrong(bytes([*values[:offset + 1], 0, 255, 82]), offset)
        self.assert_wrong(bytes(with_checksum(values)), offset)

    def test_missing_bytes(self):
        for values in [SMALL, LARGE, list(encode_ring(Ring((30,) * 8, (1,) * 8)))]:
            for many in range(len(values)):
                self.assert_wrong(bytes(values[:many]), many)

    def test_a_byte_too_many(self):
        for values in [SMALL, LARGE, list(encode_ring(Ring((30,) * 8, (1,) * 8)))]:
            for more in [0, 1, 82, 255]:
                self.assert_wrong(bytes([*values, more]), len(values))
            self.assert_wrong(bytes(values * 2), len(values))

    def test_first_byte(self):
        for value in range(256):
            if value != 82:
                self.assert_wrong_values([value, *SMALL[1:]], 0)

    def test_numbers_of_readers(self):
        for value in [0, 1, *range(9, 256)]:
            self.assert_wrong_values([82, value, *SMALL[2:]], 1)

    def test_days(self):
        for values in [SMALL, LARGE]:
            for offset in range(2, len(values) - 1, 2):
                for value in [0, *range(31, 256)]:
                    self.assert_wrong_values([*values[:offset], value, *values[offset + 1:-1]], offset)

    def test_more_than_12_books(self):
        for value in range(13, 256):
            self.assert_wrong_values([82, 2, 5, value, 5, 1], 3)
        for value in range(11, 256):
            self.assert_wrong_values([82, 2, 5, 2, 5, value], 5)
        for value in range(1, 256):
            self.assert_wrong_values([82, 3, 5, 7, 5, 5, 5, value], 7)
            self.assert_wrong_values([82, 3, 5, 12, 5, value, 5, 0], 5)

    def test_12_books(self):
        for starts in [(12, 0), (0, 12), (2, 10), (11, 1)]:
            values = with_checksum([82, 2, 5, starts[0], 6, starts[1]])
            self.assertEqual(decode_ring(bytes(values)), Ring((5, 6), starts))

    def test_no_books(self):
        for many in range(2, 9):
            self.assert_wrong_values([82, many, *[3, 0] * many], 2 * many + 1)
        # The days of the last reader come first, and a byte that is missing is no number of books.
        self.assert_wrong(bytes([82, 2, 3, 0, 31, 0]), 4)
        self.assert_wrong(bytes([82, 2, 3, 0, 30]), 5)

    def test_wrong_checksum(self):
        for values in [SMALL, LARGE]:
            for checksum in range(256):
                if checksum != values[-1]:
                    self.assert_wrong(bytes([*values[:-1], checksum]), len(values) - 1)
                    self.assert_wrong(bytes([*values[:-1], checksum, 0]), len(values) - 1)

    def test_checksums_from_251_on(self):
        # 250 is the greatest rest; a byte of 251 is not read as the rest 0.
        found = {}
        for days in range(1, 31):
            for books in range(1, 13):
                data = encode_ring(Ring((days, 1), (books, 0)))
                found[data[-1]] = data
        self.assertLessEqual(max(found), 250)
        for checksum in [value for value in found if value <= 4]:
            self.assert_wrong(found[checksum][:-1] + bytes([checksum + 251]), 6)
        self.assertIn(0, found)

    def test_first_wrong_byte(self):
        self.assert_wrong(bytes([81, 9, 0, 13]), 0)
        self.assert_wrong(bytes([82, 9, 0, 13]), 1)
        self.assert_wrong(bytes([82, 2, 0, 13]), 2)
        self.assert_wrong(bytes([82, 2, 1, 13, 0]), 3)

    def test_not_bytes(self):
        for value in NO_BYTES:
            self.assert_wrong(value, 0)


if __name__ == "__main__":
    unittest.main()
