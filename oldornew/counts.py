"""Counts: of WORDS by what may be told there, and of READERS."""

from oldornew.boxes import columns_of
from oldornew.charts import check_names, names, words_by_name
from oldornew.errors import NoNumber
from oldornew.readers import may_by_word, told_by
from oldornew.right import boxes_by_event, events_at


def how_many_by_events(chart, long):
    """Return a dict: at how many WORDS just these EVENTS over long, a mask, are met.

    There can be far too many WORDS to go through, so the masks are carried on
    from field to field, WORDS that begin alike in what they show all at once.
    """
    boxes = boxes_by_event(chart, long)
    values = columns_of(list(words_by_name(chart).values()))
    counts = {(1 << len(boxes)) - 1: 1}
    for field, column in enumerate(values):
        showing = [mask_showing(boxes, field, value) for value in column]
        counts = counts_further(counts, showing)
    return counts


def mask_showing(boxes, field, value):
    """Return the mask of the EVENTS whose BOXES have this value at this field."""
    return sum([1 << at for at, event in enumerate(boxes) if value in boxes[event][field]])


def counts_further(counts, showing):
    """Return the counts with one field more, where each value has its mask in showing."""
    fresh = {}
    for mask in counts:
        for other in showing:
            if mask & other:
                fresh[mask & other] = fresh.get(mask & other, 0) + counts[mask]
    return fresh


def how_many_by_told(chart, long):
    """Return a dict: at how many of the WORDS that are met just these states may be told."""
    boxes = boxes_by_event(chart, long)
    lacking = {name: lacking_mask(boxes, name) for name in names(chart)}
    counts = how_many_by_events(chart, long)
    told = {}
    for mask in counts:
        able = tuple([name for name in lacking if mask & lacking[name] == 0])
        told[able] = told.get(able, 0) + counts[mask]
    return told


def lacking_mask(boxes, name):
    """Return the mask of the EVENTS without this state."""
    return sum([1 << at for at, event in enumerate(boxes) if name not in event])


def how_many_met(chart, long):
    return sum(how_many_by_events(chart, long).values())


def how_many_barred(chart, long):
    return how_many_by_told(chart, long).get((), 0)


def how_many_may(chart, long, name):
    check_names(chart, (name,))
    told = how_many_by_told(chart, long)
    return sum([told[able] for able in told if name in able])


def how_many_must(chart, long, name):
    check_names(chart, (name,))
    return how_many_by_told(chart, long).get((name,), 0)


def how_many_lonely(chart):
    counts = how_many_by_events(chart, 1)
    return sum([counts.get(mask, 0) for mask in move_masks(chart)])


def move_masks(chart):
    """Return for each move the mask that has it alone of the EVENTS over 1."""
    boxes = boxes_by_event(chart, 1)
    return [1 << at for at, event in enumerate(boxes) if len(event) == 2]


def is_lonely(chart, word):
    return [len(event) for event in events_at(chart, 1, word)] == [2]


def how_many_readers(chart, long):
    many = 1
    for able in may_by_word(chart, long).values():
        many = many * len(able)
    return many


def nth_reader(chart, long, number):
    if not 0 <= number < how_many_readers(chart, long):
        raise NoNumber(number)
    may = may_by_word(chart, long)
    reader = []
    rest = number
    # What is told at the last WORD changes fastest.
    for word in reversed(list(may)):
        rest, place = divmod(rest, len(may[word]))
        reader.append((word, may[word][place]))
    return tuple(reader[::-1])


def number_of_reader(chart, long, reader):
    may = may_by_word(chart, long)
    told = told_by(reader)
    if list(told) != list(may):
        return None
    number = 0
    for word in may:
        if told[word] not in may[word]:
            return None
        number = number * len(may[word]) + may[word].index(told[word])
    return number
