"""Points 15 and 16 for many rings: texts and bytes, read again and with drawn changes, against plain parsers."""

import random
import unittest

from readingring.codec import decode_ring, encode_ring, pack_bytes, unpack_bytes
from readingring.errors import ReadingError
from readingring.notation import format_ring, parse_ring
from readingring.rings import Ring
from tests.plain_forms import changed_text, changed_values, checksum, read_text, read_values
from tests.play import SPECIAL_RINGS, all_small_rings, random_rings

ATTRIBUTES = {"NotationError": ("row", "word"), "InvalidRing": ("part", "index"), "DecodeError": ("offset",)}


def outcome(read, form):
    """What the program reads, in the form of the plain parsers."""
    try:
        ring = read(form)
    except ReadingError as error:
        name = error.__class__.__name__
        return (name, *[getattr(error, attribute) for attribute in ATTRIBUTES[name]])
    return ("ring", ring.days, ring.starts)


class ReadAgainTest(unittest.TestCase):
    def setUp(self):
        self.rings = SPECIAL_RINGS + all_small_rings() + random_rings(700, 21)

    def test_texts(self):
        for days, starts in self.rings:
            ring = Ring(days, starts)
            text = "\n".join(["reader " + str(needed) + " " + str(many) for needed, many in zip(days, starts)])
            self.assertEqual(format_ring(ring), text)
            self.assertEqual(parse_ring(text), ring)
            self.assertEqual(read_text(text), ("ring", days, starts))

    def test_bytes(self):
        for days, starts in self.rings:
            ring = Ring(days, starts)
            values = [82, len(days), *[number for pair in zip(days, starts) for number in pair]]
            values.append(checksum(values))
            self.assertEqual(unpack_bytes(encode_ring(ring)), values)
            self.assertEqual(decode_ring(pack_bytes(values)), ring)
            self.assertEqual(read_values(values), ("ring", days, starts))


class DrawnChangesTest(unittest.TestCase):
    def check_kinds(self, found, least):
        """Assert that the drawn changes have led to all kinds of outcomes."""
        for name, many in least.items():
            self.assertGreater(len([outcome for outcome in found if outcome[0] == name]), many, name)

    def test_texts(self):
        chance = random.Random(22)
        found = []
        for days, starts in SPECIAL_RINGS + random_rings(420, 23):
            text = format_ring(Ring(days, starts))
            for _ in range(20):
                changed = changed_text(chance, text)
                found.append(outcome(parse_ring, changed))
                self.assertEqual(found[-1], read_text(changed), changed)
        self.check_kinds(found, {"ring": 500, "InvalidRing": 500, "NotationError": 3000})

    def test_bytes(self):
        chance = random.Random(24)
        found = []
        for days, starts in SPECIAL_RINGS + random_rings(420, 25):
            values = unpack_bytes(encode_ring(Ring(days, starts)))
            for _ in range(20):
                changed = changed_values(chance, values)
                found.append(outcome(decode_ring, pack_bytes(changed)))
                self.assertEqual(found[-1], read_values(changed), changed)
        self.check_kinds(found, {"ring": 500, "DecodeError": 3000})
        self.assertEqual({outcome[1] for outcome in found if outcome[0] == "DecodeError"}, set(range(20)))

    def test_any_bytes(self):
        chance = random.Random(26)
        for _ in range(3000):
            values = [82, chance.randrange(2, 4)] + [chance.randrange(14) for _ in range(chance.randrange(8))]
            values.append(chance.choice([checksum(values), chance.randrange(256)]))
            self.assertEqual(outcome(decode_ring, pack_bytes(values)), read_values(values), values)


if __name__ == "__main__":
    unittest.main()
