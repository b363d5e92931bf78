"""Texts of rings, and charts of their first days."""

from readingring.checks import check_number
from readingring.errors import NotationError
from readingring.rings import Ring
from readingring.schedule import begun_by, ended_by, heap_on

WORDS_IN_ROW = 3
MOST_CHARTED = 100


def format_ring(ring):
    """Return the text of a ring."""
    return "\n".join([f"reader {days} {many}" for days, many in zip(ring.days, ring.starts)])


def parse_ring(text):
    """Return the ring of a text."""
    if not isinstance(text, str):
        raise NotationError(0, 0)
    rows = [line.split(" ") for line in text.split("\n")]
    for row, words in enumerate(rows):
        check_words(row, words)
    days = [int(words[1]) for words in rows]
    starts = [int(words[2]) for words in rows]
    return Ring(tuple(days), tuple(starts))


def check_words(row, words):
    """Raise NotationError unless these are the words of a row."""
    for index, word in enumerate(words):
        if index >= WORDS_IN_ROW or not fits(index, word):
            raise NotationError(row, index)
    if len(words) < WORDS_IN_ROW:
        raise NotationError(row, len(words))


def fits(index, word):
    """Tell whether a word may stand at this place of a row."""
    if index == 0:
        return word == "reader"
    return is_written_number(word)


def is_written_number(word):
    """Tell whether a word is a number of one or two digits without leading zeros."""
    # Python takes more characters as digits than the ten that are meant here.
    if not word.isascii() or not word.isdigit():
        return False
    return len(word) == 1 or (len(word) == 2 and word[0] != "0")


def chart(ring, count):
    """Return a text that shows who is reading on each of the first so many days."""
    check_number(count, 1, MOST_CHARTED)
    return "\n".join([chart_row(ring, reader, count) for reader in range(len(ring))])


def chart_row(ring, reader, count):
    """Return the row of a reader in a chart."""
    marks = "".join(["#" if is_reading_on(ring, reader, day) else "." for day in range(count)])
    return f"{reader} {marks} {heap_on(ring, reader, count - 1):>2}"


def is_reading_on(ring, reader, day):
    """Tell whether a reader is reading on a day, after the readings of the day have begun."""
    return begun_by(ring, reader, day) > ended_by(ring, reader, day)
