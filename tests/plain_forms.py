"""Plain readers of texts and bytes of rings, written apart from the program; and drawn changes of texts and bytes.

A reader returns ("ring", days, starts), or the name of an error and its attributes.
"""

import re

NUMBER = "(?:0|[1-9][0-9]?)"
CHARACTERS = " \n\t\r0123456789readr-+.x\u0661"


def wrong_word(line):
    """The first word of a row that is wrong, missing or superfluous, or None."""
    if re.fullmatch(f"reader {NUMBER} {NUMBER}", line):
        return None
    if re.match(f"reader {NUMBER} {NUMBER} ", line):
        return 3
    if re.match(f"reader {NUMBER}( |\\Z)", line):
        return 2
    if re.match("reader( |\\Z)", line):
        return 1
    return 0


def ring_fault(days, starts):
    """The part and the index of an invalid ring, or None."""
    for index in range(max(2, len(days))):
        if index == len(days) or index == 8 or days[index] not in range(1, 31):
            return ("days", index)
    for index in range(max(len(days), len(starts))):
        if index == len(starts) or index == len(days) or starts[index] not in range(13):
            return ("starts", index)
    return None if sum(starts) in range(1, 13) else ("starts", -1)


def read_text(text):
    numbers = []
    row = 0
    for line in re.split("\n", text):
        if wrong_word(line) is not None:
            return ("NotationError", row, wrong_word(line))
        numbers.append([int(digits) for digits in re.findall("[0-9]+", line)])
        row += 1
    days, starts = zip(*numbers)
    fault = ring_fault(days, starts)
    return ("InvalidRing", *fault) if fault else ("ring", days, starts)


def checksum(values):
    total = 1
    for value in values:
        total = (7 * total + value) % 251
    return total


def read_values(values):
    days, starts = [], []
    readers = None
    for offset, value in enumerate(values):
        pairs = None if readers is None else offset - 2 - 2 * readers
        if offset == 0:
            right = value == 82
        elif offset == 1:
            right = value in range(2, 9)
            readers = value
        elif pairs < 0 and offset % 2 == 0:
            right = value in range(1, 31)
            days.append(value)
        elif pairs < 0:
            starts.append(value)
            right = sum(starts) <= 12 and (len(starts) < readers or any(starts))
        else:
            right = pairs == 0 and value == checksum(values[:offset])
        if not right:
            return ("DecodeError", offset)
    if readers is None or len(values) < 2 * readers + 3:
        return ("DecodeError", len(values))
    return ("ring", tuple(days), tuple(starts))


def changed_text(chance, text):
    """A text with one drawn change: of a character, a word, a row, or all from a place on."""
    at = chance.randrange(len(text) + 1)
    character = chance.choice(CHARACTERS)
    words = re.split("([ \n])", text)
    place = 2 * chance.randrange(len(words) // 2 + 1)
    rows = text.split("\n")
    row = chance.randrange(len(rows))
    return chance.choice([
        text[:at] + character + text[at + 1:],
        text[:at] + character + text[at:],
        text[:at] + text[at + 1:],
        text[:at],
        text[at:],
        "".join([*words[:place], str(chance.randrange(40)), *words[place + 1:]]),
        "".join([*words[:place], words[place], " ", *words[place:]]),
        "".join([*words[:place], *words[place + 2:]]),
        "\n".join(rows[:row] + rows[row + 1:]),
        "\n".join(rows[:row] + [rows[row]] * chance.randrange(2, 8) + rows[row + 1:]),
        "\n".join(rows[:row] + [""] + rows[row:]),
    ])


def changed_values(chance, values):
    """A list of bytes with one drawn change, and perhaps with the right checksum for it."""
    at = chance.randrange(len(values) + 1)
    byte = chance.choice([chance.randrange(256), chance.randrange(32), 0])
    step = chance.choice([1, 255])
    changed = chance.choice([
        values[:at] + [byte] + values[at + 1:],
        values[:at] + [(value + step) % 256 for value in values[at:at + 1]] + values[at + 1:],
        values[:at] + [byte] + values[at:],
        values[:at] + values[at + 1:],
        values[:at],
        values[:at] + values[at + 1:at + 2] + values[at:at + 1] + values[at + 2:],
        values + [byte],
    ])
    if changed and chance.random() < 0.5:
        changed[-1] = checksum(changed[:-1])
    return changed
