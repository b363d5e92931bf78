"""Diaries and charts of rings that are played day by day, apart from the program."""

from tests.live_play import LivePlay


def played_diary(days, starts, count):
    """The first so many readings as they end."""
    play = LivePlay(days, starts)
    entries = []
    while len(entries) < count:
        entries += play.pass_days(1)
    return entries[:count]


def played_chart(days, starts, count):
    """The text of a chart of the first so many days."""
    play = LivePlay(days, starts)
    rows = [str(reader) + " " for reader in range(len(days))]
    for day in range(count):
        if day > 0:
            play.pass_days(1)
        for reader, reading in enumerate(play.reading()):
            rows[reader] += "." if reading is None else "#"
    for reader, books in enumerate(play.waiting()):
        rows[reader] += " " + " " * (len(books) < 10) + str(len(books))
    return "\n".join(rows)


def torn(chance, entries, share):
    """A diary from which some of the numbers have been torn."""
    return [tuple(None if chance.random() < share else item for item in entry) for entry in entries]


def first_wrong_entry(entries, diary):
    """The index of the first entry of a diary that cannot be, or None, if these are the first 500 entries."""
    for index in range(len(diary)):
        if index == 500 or type(diary[index]) is not tuple or len(diary[index]) != 3:
            return index
        for place in range(3):
            item = diary[index][place]
            if item is not None and (type(item) is not int or item != entries[index][place]):
                return index
    return None
