"""Bytes of rings."""

from readingring.checks import lies_between
from readingring.errors import DecodeError, InvalidCount
from readingring.rings import FEWEST_READERS, MOST_BOOKS, MOST_DAYS, MOST_READERS, Ring

FIRST_BYTE = 82
CHECKSUM_START = 1
CHECKSUM_FACTOR = 7
CHECKSUM_MODULUS = 251


def pack_bytes(values):
    """Return the bytes with the values of a list."""
    if not isinstance(values, list) or not all([lies_between(value, 0, 255) for value in values]):
        raise InvalidCount("not a list of integers from 0 to 255")
    return bytes(values)


def unpack_bytes(data):
    """Return the values of bytes as a list."""
    return list(data)


def encode_ring(ring):
    """Return the bytes of a ring."""
    values = [FIRST_BYTE, len(ring)]
    for days, many in zip(ring.days, ring.starts):
        values.extend([days, many])
    values.append(checksum_of(values))
    return pack_bytes(values)


def decode_ring(data):
    """Return the ring of bytes."""
    if not isinstance(data, bytes):
        raise DecodeError(0)
    read_byte(data, 0, (FIRST_BYTE, FIRST_BYTE))
    readers = read_byte(data, 1, (FEWEST_READERS, MOST_READERS))
    days = []
    starts = []
    for offset in range(2, 2 + 2 * readers, 2):
        days.append(read_byte(data, offset, (1, MOST_DAYS)))
        # There may be so many books more; the last reader must have some if no other one has.
        most = MOST_BOOKS - sum(starts)
        fewest = 1 if len(days) == readers and most == MOST_BOOKS else 0
        starts.append(read_byte(data, offset + 1, (fewest, most)))
    end = 2 + 2 * readers
    checksum = checksum_of(unpack_bytes(data[:end]))
    read_byte(data, end, (checksum, checksum))
    if len(data) > end + 1:
        raise DecodeError(end + 1)
    return Ring(tuple(days), tuple(starts))


def read_byte(data, offset, limits):
    """Return a byte, and raise DecodeError if it is missing or out of the limits."""
    low, high = limits
    # Bytes are read one after the other: the first one that is missing stands at the length of the data.
    if offset >= len(data) or not low <= data[offset] <= high:
        raise DecodeError(offset)
    return data[offset]


def checksum_of(values):
    """Return the checksum of the values ahead of it."""
    checksum = CHECKSUM_START
    for value in values:
        checksum = int(CHECKSUM_FACTOR * checksum + value) % CHECKSUM_MODULUS
    return checksum
