"""READERS: which state is told at which WORD."""

from oldornew.boxes import in_all
from oldornew.charts import is_word, names
from oldornew.errors import NoReader
from oldornew.plain import is_ascending, is_pair
from oldornew.right import boxes_by_event, events_at


def words_in(columns):
    """Return the WORDS with one value of each column, ascending."""
    words = [()]
    for column in columns:
        words = [(*word, value) for word in words for value in column]
    return words


def may_by_word(chart, long):
    """Return a dict: for each WORD that is met, ascending, what may_tell tells."""
    boxes = boxes_by_event(chart, long)
    may = {}
    for event in boxes:
        for word in words_in(boxes[event]):
            able = may.get(word, event)
            may[word] = tuple([name for name in able if name in event])
    return {word: may[word] for word in sorted(may)}


def is_full(may):
    """Tell whether at each WORD of may some state may be told."""
    return all([len(able) > 0 for able in may.values()])


def told_by(reader):
    """Return a dict: what the READER tells at each WORD."""
    return {tuple(word): name for word, name in reader}


def reader_of(told):
    """Return the READER that tells what the dict has at each WORD."""
    return tuple([(word, told[word]) for word in sorted(told)])


def met_words(chart, long):
    return list(may_by_word(chart, long))


def may_tell(chart, long, word):
    showing = events_at(chart, long, word)
    if len(showing) == 0:
        return None
    return in_all(chart, showing)


def a_reader(chart, long):
    return least_reader(may_by_word(chart, long))


def least_reader(may):
    """Return the least READER that tells, at each WORD of may, what may be told there."""
    if not is_full(may):
        raise NoReader()
    return reader_of({word: may[word][0] for word in may})


def is_reader(chart, long, thing):
    return is_some_reader(chart, thing) and is_told(may_by_word(chart, long), thing)


def is_told(may, reader):
    """Tell whether the READER tells, at each WORD of may, what may be told there."""
    told = told_by(reader)
    return all([told.get(word) in may[word] for word in may])


def is_some_reader(chart, thing):
    """Tell whether thing is a READER for the CHART, right or not."""
    if not isinstance(thing, tuple) or not all([is_pair(pair) for pair in thing]):
        return False
    everyone = names(chart)
    if not all([is_word(chart[0], word) and name in everyone for word, name in thing]):
        return False
    return is_ascending([word for word, name in thing])


def tells(reader, word):
    return told_by(reader).get(tuple(word))


def wrongly_told(chart, long, reader):
    told = told_by(reader)
    boxes = boxes_by_event(chart, long)
    wrong = []
    for event in boxes:
        wrong.extend([(word, event) for word in words_in(boxes[event]) if told.get(word) not in event])
    return sorted(wrong)
